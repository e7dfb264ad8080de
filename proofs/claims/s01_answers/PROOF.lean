import PyProof.Rows.All
import Wide.All
import OpenK.AllK
import Wide.FinOn
import PyProof.EqAt
import PyProof.EqKinds
import PyProof.TupleCall
import Open.SpecLaws
import KE.OsGo
import HandS.ForSpec
import HandS.Comp
import HandS.Dict
import HandS.WordsDict
import HandS.Iter
import HandS.Text
import HandS.More
import HandS.Walk
import HandS.Rev
import HandS.Zip
import HandS.SortInts
import HandS.CallLocal
import PySem.Challenge.RW_sparedisk_s01_answers
import Fm08Spec
import Fm08Neutral
import PyFm08
set_option Elab.async false
set_option linter.all false
set_option maxRecDepth 100000
set_option maxHeartbeats 2000000
set_option Elab.async false
set_option linter.all false
set_option maxRecDepth 100000
set_option maxHeartbeats 2000000
/-! # Own words over the hand layer: operators by name, rules that the layer lacks, steps of readings -/
namespace Dk
open PySem PySem.Spec PyProof.Rows L2
abbrev oAdd : R2 := rI0 fun i j => V.int (i + j)
abbrev oSub : R2 := rI0 fun i j => V.int (i - j)
abbrev oMul : R2 := rI CMul fun i j => V.int (i * j)
abbrev oMod : R2 := rI (fun _ j => j ≠ 0) fun i j => V.int (i.fmod j)
abbrev oDiv : R2 := rI CDivN fun i j => V.int (i.fdiv j)
abbrev oShr : R2 := rI (fun _ j => 0 ≤ j) fun i j => V.int (i / 2 ^ j.toNat)
abbrev oAnd : R2 := rI0 fun i j => V.int (Builtin.bitAnd i j)
abbrev oXor : R2 := rI0 fun i j => V.int (Builtin.bitXor i j)
abbrev oLt : R2 := rI0 fun i j => V.bl (decide (i < j))
abbrev oLe : R2 := rI0 fun i j => V.bl (decide (i ≤ j))
abbrev oGt : R2 := rI0 fun i j => V.bl (decide (j < i))
abbrev oGe : R2 := rI0 fun i j => V.bl (decide (j ≤ i))
abbrev oIsN : R2 := fun x y H Q => y = .non ∧ Q (.bl (decide (x = .non))) H
abbrev oNotN : R2 := fun x y H Q => y = .non ∧ Q (.bl (!decide (x = .non))) H
abbrev oNeg : V → Hp → VK → Prop := rU fun i => V.int (-i)
abbrev cOrd : List V → Hp → VK → Prop := fun xs H Q => ∃ x, xs = [.str x] ∧ x.length = 1 ∧ Q (.int (x.cps.getD 0 0 : Nat)) H
abbrev cMin2 : List V → Hp → VK → Prop := fun xs H Q => ∃ i j, xs = [.int i, .int j] ∧ Q (.int (if j < i then j else i)) H
abbrev cDict : List V → Hp → VK → Prop := fun xs H Q => ∃ (a : Addr) (kvs : List (Key × V)), xs = [.ref a] ∧ Rd H a (.dK kvs) ∧ ∀ p, H p = none → Q (.ref p) (upd H p (.dK kvs))
/-- sorted(d), the keys ints, any number of them -/
def cSortedD : List V → Hp → VK → Prop := fun xs H Q => ∃ (a : Addr) (kvs : List (Key × V)) (ks : List Int), xs = [.ref a] ∧ Rd H a (.dK kvs) ∧ kvs.map (·.1) = ks.map Sum.inl ∧
  ∀ (ys : List Int) (p : Addr), ys.Perm ks → ys.Pairwise (· ≤ ·) → H p = none → Q (.ref p) (upd H p (.lst (ys.map V.int)))
/-- len(set(xs)) == .., any ints -/
def tLenSet (K : PySem.W.Frag) (ta : TE) : TE := fun σ H Q => ta σ H fun x H1 => ∃ (l : Addr) (ns : List Int), x = .ref l ∧ SqL K H1 l (ns.map V.int) ∧ ns.length ≤ 4000 ∧
  ∀ k : Nat, k ≤ ns.length → (k = ns.length ↔ ns.Nodup) → Q (.int k) H1
def BU : List Str := ["dict", "enumerate", "len", "max", "min", "ord", "range", "reversed", "set", "sorted", "zip"]

/-! ### what the top has written, in pieces -/
structure ClsT (K : PySem.W.Frag) (mg : Str → Option Value) (x : Str) (C fi : Addr) (ats : List Str) : Prop where
  cl : Cls K C
  na : ∀ f ∈ ats, NoAttr K C f
  mkc : Mk K C fi
  g : mg x = some (.ref C)
structure FunT (K : PySem.W.Frag) (x qual : Str) (st : Stmt) (ps : List Str) (f : Addr) (fd : FuncData) : Prop where
  F : Fun K x qual st f fd
  b : Binds K fd ps []
structure MethT (K : PySem.W.Frag) (C : Addr) (x qual : Str) (st : Stmt) (ps : List Str) (f : Addr) (fd : FuncData) : Prop where
  m : Meth K C x f
  F : Fun K x qual st f fd
  b : Binds K fd ps []
structure DefT (K : PySem.W.Frag) (mg : Str → Option Value) (x : Str) (st : Stmt) (ps : List Str) (f : Addr) (fd : FuncData) : Prop where
  g : mg x = some (.ref f)
  F : Fun K x x st f fd
  b : Binds K fd ps []

/-! ### rules -/
section
variable {X : Cx}
theorem pe_gl {x : Str} {v : V} {pos : Pos} (hg : Gl X x) (h : ∃ u, X.mg x = some u ∧ RelV v u) (hd : (x == ("__debug__" : Str)) = false := by decide) : PE X (.Name x pos) (tC v) :=
  h.elim fun _ e => pe_glob hg e.1 e.2 hd
/-- of a walk over numbers: the first of each kind, as many as there are kinds -/
theorem met_le (ns : List Int) : (firstMet (fun i => ns.getD i 0) ns.length).length ≤ ns.length := firstMet_length_le _ _
theorem dedup_len : ∀ (l acc : List Int), (l.foldl step_dedup acc).length ≤ acc.length + l.length ∧ (acc.length + l.length ≤ (l.foldl step_dedup acc).length → l.Nodup ∧ ∀ x ∈ l, x ∉ acc)
  | [], acc => ⟨Nat.le_refl _, fun _ => ⟨List.nodup_nil, by simp⟩⟩
  | x :: l, acc => by
    show (l.foldl step_dedup (step_dedup acc x)).length ≤ acc.length + (l.length + 1) ∧ (acc.length + (l.length + 1) ≤ (l.foldl step_dedup (step_dedup acc x)).length → _)
    have ih := dedup_len l (step_dedup acc x)
    by_cases h : (acc.any (· == x)) = true
    · have e : step_dedup acc x = acc := by unfold step_dedup; rw [if_pos h]
      rw [e] at ih ⊢
      exact ⟨by omega, fun z => absurd ih.1 (by omega)⟩
    · have e : step_dedup acc x = acc ++ [x] := by unfold step_dedup; rw [if_neg h]
      have el : (acc ++ [x]).length = acc.length + 1 := by simp
      rw [e] at ih ⊢
      rw [el] at ih
      refine ⟨by omega, fun z => ?_⟩
      obtain ⟨h1, h2⟩ := ih.2 (by omega)
      have hx : x ∉ acc := fun m => h (List.any_eq_true.mpr ⟨x, m, beq_self_eq_true x⟩)
      refine ⟨List.nodup_cons.mpr ⟨fun m => h2 x m (by simp), h1⟩, fun y m => ?_⟩
      rcases List.mem_cons.mp m with e | m
      · rw [e]; exact hx
      · exact fun q => h2 y m (by simp [q])
theorem dedup_nodup : ∀ (l acc : List Int), l.Nodup → (∀ x ∈ l, x ∉ acc) → (l.foldl step_dedup acc).length = acc.length + l.length
  | [], acc, _, _ => rfl
  | x :: l, acc, h, d => by
    obtain ⟨h1, h2⟩ := List.nodup_cons.mp h
    have hx : ¬ (acc.any (· == x)) = true := fun q => by
      obtain ⟨y, hy, ey⟩ := List.any_eq_true.mp q
      exact d x (by simp) (by rw [← eq_of_beq ey]; exact hy)
    show (l.foldl step_dedup (step_dedup acc x)).length = _
    have e : step_dedup acc x = acc ++ [x] := by unfold step_dedup; rw [if_neg hx]
    rw [e, dedup_nodup l (acc ++ [x]) h2 fun y hy m => ?_]
    · simp; omega
    · rcases List.mem_append.mp m with m | m
      · exact d y (by simp [hy]) m
      · rw [List.mem_singleton.mp m] at hy; exact h1 hy
theorem getD_self (ns : List Int) : (List.range ns.length).map (fun i => ns.getD i 0) = ns := by
  refine List.ext_getElem (by simp) fun i h1 h2 => ?_
  simp [List.getD_eq_getElem?_getD, h2]
theorem met_iff (ns : List Int) : (firstMet (fun i => ns.getD i 0) ns.length).length = ns.length ↔ ns.Nodup := by
  unfold firstMet
  rw [getD_self]
  constructor
  · intro h
    exact ((dedup_len ns []).2 (by rw [h]; simp)).1
  · intro h
    rw [dedup_nodup ns [] h (by simp)]; simp
theorem pe_lenSetAny {a : Expr} {ta : TE} {p p2 q pos : Pos} (hg : Gl X "len") (hm : X.mg "len" = none) (hg2 : Gl X "set") (hm2 : X.mg "set" = none) (ha : PE X a ta) (hc : X.calm = true := by rfl)
    (na : starEach [a] X.env = (false, eval a X.env) :: starEach [] X.env := by rfl) : PE X (.Call (.Name "len" p) [.Call (.Name "set" p2) [a] [] q] [] pos) (tLenSet X.K ta) :=
  ⟨fun pins s σ H Q I h => Call_ (ld_blt I hg hm PySem.boot_len (PyProof.Rows.callWith_builtin1 (PyProof.Rows.args_cons
    (Call_ (ld_blt I hg2 hm2 PyProof.Rows.boot_set (PyProof.Rows.callWith_type1 (PyProof.Rows.args_cons (thn (ha.run pins s σ H _ I h) fun v s1 ⟨x, H1, I1, r1, q1⟩ => PyProof.Rows.args_nil (by
      obtain ⟨l, ns, ex, hq, hl, q1⟩ := q1
      subst ex
      cases r1
      obtain ⟨tv, r, pz, zz⟩ := I1.list hq
      have hn : tv.toArray.size = ns.length := by rw [List.size_toArray, ← r.length, List.length_map]
      refine call_set_list (ns := ns) (I1.ok.hd hc) pz.isList (by simpa using r.ints) (by rw [hn]; unfold scanBound; omega) fun hx tk gs hk => PyProof.Rows.args_nil ?_
      rw [hn] at gs
      obtain ⟨o, es, ep, t, ho, hex, hd, _, _, _, hf, hs⟩ := gs
      have hb := met_le ns
      have J2 : Inv X pins σ H1 { s1 with heap := hx, toks := tk } := I1.kept fun b o e => hk b o (Heap.lt_size e) e
      exact call_len_set ho hex hd hf (by rw [hs]; omega) ⟨.int (firstMet (fun i => ns.getD i 0) ns.length).length, H1, J2.tok _, ⟨_, by rw [hs]⟩, q1 _ hb (met_iff ns)⟩)) na) na rfl))) rfl) rfl rfl))⟩
/-- sorted(d) of a dict whose keys are ints, any number of them -/
theorem call_sortedDict (hcalm : X.calm = true) : CallR X (.builtin "sorted") cSortedD := fun pins s σ H xs ws Q I r q => by
  obtain ⟨a, kw, zs, ex, hdk, hzs, q⟩ := q
  subst ex
  obtain ⟨u, eu, rq⟩ := vals1 r
  subst eu
  cases rq
  obtain ⟨zl, low, ents, rl, de⟩ := dk_rd I.hok hdk
  obtain ⟨ep, hat⟩ := de.dictAt
  have ke : ents.map (·.1) = zs.map Sum.inl := rl.keys.symm.trans hzs
  have nl : ents.length = zs.length := by simpa using congrArg List.length ke
  have kl : kw.length = zs.length := by simpa using congrArg List.length hzs
  have n16 : ents.length ≤ sizeLine := by rw [nl, ← kl]; exact zl
  refine Calls.call_function_entry PyProof.Rows.kind_sorted PyProof.Rows.plain_sorted PyProof.Rows.entry_sorted (PyProof.Rows.args_sorted1 _) ?_
  unfold Builtin.«sorted»; refine wpAny_bind (m := checkCount "sorted" 1 1 _) (wpAny_pure (wpAny_bind (PySem.W.kdu_collect (A := X.A.in1) (PySem.W.kdl_dict (knd := mixKind X.prog X.w) (kvs := ents) (ep := ep) low) (I.ok.hd hcalm) hat n16 fun hn tn got hk hgot => ?_)))
  have gl : got.toList.length = zs.length := by rw [Array.length_toList, hgot.1, nl]
  have gi : IntsAre got.toList zs := ints_each gl fun j v e => by
    obtain ⟨k, x, u1, u2⟩ := hgot.2 j v (by rw [← Array.getElem?_toList]; exact e)
    have u3 : (ents.map (·.1))[j]? = some k := by simp [u1]
    rw [ke, List.getElem?_map] at u3
    cases u4 : zs[j]? with
    | none => rw [u4] at u3; cases u3
    | some y =>
      rw [u4] at u3
      cases (Option.some.inj u3 : Sum.inl y = k)
      have u6 : ∃ t, v = Value.int y t := by
        cases v with
        | int i t => exact ⟨t, by rw [eq_of_beq (show (i == y) = true from u2)]⟩
        | _ => exact absurd (show false = true from u2) Bool.false_ne_true
      exact u6.elim fun t et => ⟨y, t, rfl, et⟩
  have Iz : Inv X pins σ H { s with heap := hn, toks := tn } := I.kept hk
  refine wpAny_bind (wpAny_newList ?_ (by rw [gl, ← kl]; exact zl))
  have onew : (hn.push (seqObj "list" got.toList.toArray 0)).get? hn.objs.size = some (seqObj "list" got.toList.toArray 0) := Heap.get?_push_size _ rfl
  show wpAny _ _ _ _ _ { s with heap := hn.push (seqObj "list" got.toList.toArray 0), toks := tn }
  refine wpAny_bind (wpAny_holding (wpAny_call_entry PyProof.Rows.slot_list_sort ⟨_, onew, rfl⟩ PyProof.Rows.entry_list_sort
    (SrtO.list_sort_ord SrtO.swo_int (s := { s with heap := hn.push (seqObj "list" got.toList.toArray 0), toks := tn }) onew (by rw [gl, ← kl]; exact zl) (fun h2 => SrtO.ints_sortable gi h2) fun ou v1 v2 => ⟨_, rfl, ?_⟩) (PyProof.Rows.args_list_sort _)))
  obtain ⟨m1, m2, m3⟩ := SrtO.ints_out gi v1 v2
  obtain ⟨ee, hee⟩ := PyProof.Rows.sortedHeap_at (vs := got.toList) (out := ou.toArray) onew
  have nlen : ((ou.map SrtO.iv).map V.int).length ≤ sizeLine := by rw [List.length_map, m2.length_eq, ← kl]; exact zl
  refine wpAny_pure ⟨_, rfl, .ref hn.objs.size, upd H hn.objs.size (.lst ((ou.map SrtO.iv).map V.int)), Iz.laid (t' := tn) (fun b u e => ?_) (Nat.le_refl _)
    (show ObjOk X.prog X.w _ _ _ (.lst ((ou.map SrtO.iv).map V.int)) from ⟨nlen, ou, ee, vals_of_ints m1, hee⟩), rfl, q _ _ m2 m3 (Iz.hok.fresh (Nat.le_refl _))⟩
  have bl : b < hn.objs.size := Heap.lt_size e
  rw [PyProof.Rows.sortedHeap_old (Nat.ne_of_lt bl) (by rw [size_push']; exact Nat.lt_succ_of_lt bl)]
  exact Heap.get?_push_of_some _ e
end
end Dk
namespace Dk
open PySem PySem.Spec PyProof.Rows L2
/-! ### what changes: all that was tracked outside F is as it was -/
def Keep (F : List Addr) (H H' : Hp) : Prop := ∀ b o, H b = some o → b ∉ F → H' b = some o
theorem Keep.refl (F : List Addr) (H : Hp) : Keep F H H := fun _ _ h _ => h
theorem Keep.same {H H' : Hp} (k : Keep [] H H') : Same H H' := fun b o h => k b o h (by simp)
theorem Keep.of {F : List Addr} {H H' : Hp} (s : Same H H') : Keep F H H' := fun b o h _ => s b o h
theorem Keep.trans {F : List Addr} {H H1 H2 : Hp} (a : Keep F H H1) (b : Keep F H1 H2) : Keep F H H2 := fun c o h n => b c o (a c o h n) n
theorem Keep.mono {F G : List Addr} {H H1 : Hp} (a : Keep F H H1) (h : ∀ x ∈ F, x ∈ G) : Keep G H H1 := fun c o e n => a c o e fun m => n (h c m)
theorem keep_upd {H : Hp} {p : Addr} {o : HO} : Keep [p] H (upd H p o) := fun b u e n => by
  rw [upd_ne (by simpa using n)]; exact e
theorem same_new {H : Hp} {p : Addr} {o : HO} (h : H p = none) : Same H (upd H p o) := fun b u e => by
  rw [upd_ne (ne_of_none e h)]; exact e
/-- what F touches is new since H -/
theorem Keep.fresh {F : List Addr} {H H1 H2 : Hp} (s : Same H H1) (k : Keep F H1 H2) (n : ∀ x ∈ F, H x = none) : Same H H2 := fun b o e =>
  k b o (s b o e) fun m => by rw [n b m] at e; cases e

/-! ### fields -/
def fldv (K : PySem.W.Frag) (f : Str) (x : V) (H : Hp) (Q : VK) : Prop := ∃ a C dx fs v, x = .ref a ∧ H a = some (.ins C dx fs) ∧ Cls K C ∧ NoAttr K C f ∧ fs.lookup f = some v ∧ Q v H
def stv (K : PySem.W.Frag) (f : Str) (x y : V) (H : Hp) (R : Hp → Prop) : Prop := ∃ a C dx fs, x = .ref a ∧ H a = some (.ins C dx fs) ∧ Cls K C ∧ NoAttr K C f ∧ fs.length < 1000 ∧ R (upd H a (.ins C dx (putF f y fs)))
def methv (C : Addr) (m : Str) (sp : Sp) (E : XK) (t : TA) (σ : L2.St) (x : V) (H : Hp) (Q : VK) : Prop := ∃ a dx fs, x = .ref a ∧ H a = some (.ins C dx fs) ∧ fs.lookup m = none ∧ t σ H fun vs H2 => sp (x :: (vs ++ [])) H2 Q E
theorem lk_here {k : Str} {v : V} {r : List (Str × V)} : List.lookup k ((k, v) :: r) = some v := by simp [List.lookup]
theorem lk_past {k g : Str} {v : V} {r : List (Str × V)} (h : (k == g) = false) : List.lookup k ((g, v) :: r) = List.lookup k r := by simp [List.lookup, h]
theorem put_here {f : Str} {v x : V} {r : List (Str × V)} : putF f v ((f, x) :: r) = (f, v) :: r := by simp [putF]
theorem put_past {f g : Str} {v x : V} {r : List (Str × V)} (h : ¬ g = f) : putF f v ((g, x) :: r) = (g, x) :: putF f v r := by simp [putF, h]

/-! ### steps of readings -/
section
variable {K : PySem.W.Frag} {σ : L2.St} {H : Hp} {D : Ends} {Q : VK} {ta tb te : TE} {t u : TS} {v x y : V}
theorem w_seq (h : t { D with nx := u D } σ H) : tSeq t u D σ H := h
theorem w_asg {g : TG} (h : te σ H fun x H1 => g x σ H1 D.nx) : tAsg te g D σ H := h
theorem w_drop (h : te σ H fun _ H1 => D.nx σ H1) : tDrop te D σ H := h
theorem w_ret (h : te σ H D.rt) : tRet te D σ H := h
theorem w_retN (h : D.rt .non H) : tRetN D σ H := h
theorem w_next (h : D.nx σ H) : tNext D σ H := h
theorem w_break (h : D.bk σ H) : tBreak D σ H := h
theorem w_cont (h : D.ct σ H) : tCont D σ H := h
theorem w_if {c : TT} (h : c σ H fun b H1 => if b = true then t D σ H1 else u D σ H1) : tIfS c t u D σ H := h
theorem w_var {i : Nat} (h : σ[i]? = some (some v)) (q : Q v H) : tVar i σ H Q := ⟨v, h, q⟩
theorem w_c (q : Q v H) : tC v σ H Q := q
theorem w_op {r : R2} (h : ta σ H fun x H1 => tb σ H1 fun y H2 => r x y H2 Q) : tOp r ta tb σ H Q := h
theorem w_un {r : V → Hp → VK → Prop} (h : ta σ H fun x H1 => r x H1 Q) : tUn r ta σ H Q := h
theorem w_fld {f : Str} (h : ta σ H fun x H1 => fldv K f x H1 Q) : tFld K ta f σ H Q := h
theorem w_sfld {f : Str} (h : te σ H fun y H1 => ta σ H1 fun x H2 => stv K f x y H2 (D.nx σ)) : sFld K ta te f D σ H := h
theorem w_meth {C : Addr} {m : Str} {sp : Sp} {E : XK} {s : TA} (h : ta σ H fun x H1 => methv C m sp E s σ x H1 Q) : tMeth C m sp [] E ta s σ H Q := h
theorem w_call {sp : Sp} {E : XK} {s : TA} (h : s σ H fun vs H1 => sp (vs ++ []) H1 Q E) : tCall sp [] E s σ H Q := h
theorem w_cons {s : TA} {R : List V → Hp → Prop} (h : ta σ H fun x H1 => s σ H1 fun xs H2 => R (x :: xs) H2) : tCons ta s σ H R := h
theorem w_nil {R : List V → Hp → Prop} (h : R [] H) : tNil σ H R := h
theorem w_cb {r : List V → Hp → VK → Prop} {s : TA} (h : s σ H fun vs H1 => r vs H1 Q) : tCB r s σ H Q := h
theorem w_add {i j : Int} (q : Q (.int (i + j)) H) : oAdd (.int i) (.int j) H Q := ⟨i, j, rfl, rfl, q⟩
theorem w_sub {i j : Int} (q : Q (.int (i - j)) H) : oSub (.int i) (.int j) H Q := ⟨i, j, rfl, rfl, q⟩
theorem w_mulR {i j : Int} (h : -(2 ^ 64) < j ∧ j < 2 ^ 64) (q : Q (.int (i * j)) H) : oMul (.int i) (.int j) H Q := ⟨i, j, rfl, rfl, .inr h, q⟩
theorem w_mulL {i j : Int} (h : -(2 ^ 64) < i ∧ i < 2 ^ 64) (q : Q (.int (i * j)) H) : oMul (.int i) (.int j) H Q := ⟨i, j, rfl, rfl, .inl h, q⟩
theorem w_mod {i j : Nat} (h : j ≠ 0) (q : Q (.int ((i % j : Nat) : Int)) H) : oMod (.int i) (.int j) H Q := ⟨i, j, rfl, rfl, by omega, by
  have e : ((i : Int).fmod (j : Int)) = ((i % j : Nat) : Int) := by rw [Int.fmod_eq_emod_of_nonneg _ (by omega)]; omega
  exact (congrArg (fun z => Q (V.int z) H) e).mpr q⟩
theorem w_div {i j : Nat} (h : j ≠ 0) (h2 : j < 1073741824) (q : Q (.int ((i / j : Nat) : Int)) H) : oDiv (.int i) (.int j) H Q := ⟨i, j, rfl, rfl, ⟨by omega, by omega⟩, by
  have e : ((i : Int).fdiv (j : Int)) = ((i / j : Nat) : Int) := by rw [Int.fdiv_eq_ediv_of_nonneg _ (by omega)]; omega
  exact (congrArg (fun z => Q (V.int z) H) e).mpr q⟩
theorem w_shr {i k : Nat} (q : Q (.int ((i / 2 ^ k : Nat) : Int)) H) : oShr (.int i) (.int k) H Q := ⟨i, k, rfl, rfl, by omega, by
  have e : ((i : Int) / 2 ^ (k : Int).toNat) = ((i / 2 ^ k : Nat) : Int) := by rw [Int.toNat_natCast]; simp
  exact (congrArg (fun z => Q (V.int z) H) e).mpr q⟩
theorem w_and {i k : Nat} (m : Nat) (hm : (k : Int) = 2 ^ m - 1) (q : Q (.int ((i % 2 ^ m : Nat) : Int)) H) : oAnd (.int i) (.int k) H Q := ⟨i, k, rfl, rfl, by
  have e : Builtin.bitAnd (i : Int) (k : Int) = ((i % 2 ^ m : Nat) : Int) := by rw [hm, Bits.bitAnd_mask m (by omega)]; simp
  exact (congrArg (fun z => Q (V.int z) H) e).mpr q⟩
theorem w_xor {i j : Nat} (q : Q (.int ((i ^^^ j : Nat) : Int)) H) : oXor (.int i) (.int j) H Q := ⟨i, j, rfl, rfl, by
  have e : Builtin.bitXor (i : Int) (j : Int) = ((i ^^^ j : Nat) : Int) := by rw [Bits.bitXor_pp (by omega) (by omega), Int.toNat_natCast, Int.toNat_natCast]
  exact (congrArg (fun z => Q (V.int z) H) e).mpr q⟩
theorem w_lt {i j : Int} (q : Q (.bl (decide (i < j))) H) : oLt (.int i) (.int j) H Q := ⟨i, j, rfl, rfl, q⟩
theorem w_le {i j : Int} (q : Q (.bl (decide (i ≤ j))) H) : oLe (.int i) (.int j) H Q := ⟨i, j, rfl, rfl, q⟩
theorem w_gt {i j : Int} (q : Q (.bl (decide (j < i))) H) : oGt (.int i) (.int j) H Q := ⟨i, j, rfl, rfl, q⟩
theorem w_ge {i j : Int} (q : Q (.bl (decide (j ≤ i))) H) : oGe (.int i) (.int j) H Q := ⟨i, j, rfl, rfl, q⟩
theorem w_isN (q : Q (.bl (decide (x = .non))) H) : oIsN x .non H Q := ⟨rfl, q⟩
theorem w_notN (q : Q (.bl (!decide (x = .non))) H) : oNotN x .non H Q := ⟨rfl, q⟩
theorem w_neg {i : Int} (q : Q (.int (-i)) H) : oNeg (.int i) H Q := ⟨i, rfl, q⟩
theorem int_dec {i j : Int} : decide (V.int i = V.int j) = decide (i = j) := by
  by_cases h : i = j
  · rw [h]; simp
  · rw [decide_eq_false h, decide_eq_false (fun e => h (V.int.inj e))]
theorem w_eqI {i j : Int} (q : Q (.bl (decide (i = j))) H) : rEq (.int i) (.int j) H Q := ⟨rfl, by rw [int_dec]; exact q⟩
theorem w_neI {i j : Int} (q : Q (.bl (!decide (i = j))) H) : rNe (.int i) (.int j) H Q := ⟨rfl, by rw [int_dec]; exact q⟩
def blv (R : Bool → Hp → Prop) (z : V) (H : Hp) : Prop := ∃ k, z = .bl k ∧ R k H
theorem w_test {c : TE} {R : Bool → Hp → Prop} (h : c σ H fun z H1 => blv R z H1) : tTest c σ H R := h
theorem w_tB {c : TE} {R : Bool → Hp → Prop} (h : c σ H fun z H1 => blv R z H1) : tB c σ H R := h
theorem w_bl {b : Bool} {R : Bool → Hp → Prop} (h : R b H) : blv R (.bl b) H := ⟨b, rfl, h⟩
theorem w_not {c : TT} {R : Bool → Hp → Prop} (h : c σ H fun b H1 => R (!b) H1) : tNot c σ H R := h
theorem w_and_t {c d : TT} {R : Bool → Hp → Prop} (h : c σ H fun b H1 => if b = true then d σ H1 R else R false H1) : tAnd c d σ H R := h
theorem w_or_t {c d : TT} {R : Bool → Hp → Prop} (h : c σ H fun b H1 => if b = true then R true H1 else d σ H1 R) : tOr c d σ H R := h
theorem w_andV (h : ta σ H fun x H1 => blv (fun c H1 => if c = true then tb σ H1 Q else Q (.bl false) H1) x H1) : tAndV ta tb σ H Q := h
theorem w_orV (h : ta σ H fun x H1 => blv (fun c H1 => if c = true then Q (.bl true) H1 else tb σ H1 Q) x H1) : tOrV ta tb σ H Q := h
theorem w_gname {i : Nat} {R : L2.St → Hp → Prop} (h : R (σ.set i (some v)) H) : gName i v σ H R := h
theorem w_lst {s : TA} (h : s σ H fun xs H1 => xs.length ≤ sizeLine ∧ ∀ p, H1 p = none → Q (.ref p) (upd H1 p (.lst xs))) : tLst s σ H Q := h
theorem w_tup {s : TA} (h : s σ H fun xs H1 => xs.length ≤ sizeLine ∧ ∀ p, H1 p = none → Q (.ref p) (upd H1 p (.tup xs))) : tTup s σ H Q := h
theorem w_dnew (h : ∀ p, H p = none → Q (.ref p) (upd H p (.dK []))) : tDNewK σ H Q := h
theorem w_sl {r : V → Option Int → Option Int → Hp → VK → Prop} {tl th : TO} (h : te σ H fun x H1 => tl σ H1 fun l H2 => th σ H2 fun u H3 => r x l u H3 Q) : tSl r te tl th σ H Q := h
theorem w_nopart {R : Option Int → Hp → Prop} (h : R none H) : tNoPart σ H R := h
def partv (x : V) (R : Option Int → Hp → Prop) (H : Hp) : Prop := ∃ i, x = .int i ∧ R (some i) H
theorem w_part {R : Option Int → Hp → Prop} (h : te σ H fun x H1 => partv x R H1) : tPart te σ H R := h
theorem w_parti {i : Int} {R : Option Int → Hp → Prop} (h : R (some i) H) : partv (.int i) R H := ⟨i, rfl, h⟩
theorem w_bm {T : String} {r : V → List V → Hp → VK → Prop} {s : TA} (h : te σ H fun x H1 => tyV K T x H1 ∧ s σ H1 fun xs H2 => r x xs H2 Q) : tBM K T r te s σ H Q := h
theorem w_tyl {p : Addr} {xs : List V} {A : Prop} (h : H p = some (.lst xs)) (q : A) : tyV K "list" (.ref p) H ∧ A := ⟨.inl ⟨rfl, xs, .of h⟩, q⟩
theorem w_app {p : Addr} {xs : List V} (h : H p = some (.lst xs)) (l : xs.length < sizeLine) (q : Q .non (upd H p (.lst (xs ++ [y])))) : rAppend (.ref p) [y] H Q := ⟨p, xs, y, rfl, rfl, h, l, q⟩
theorem w_ext {p b : Addr} {xs zs : List V} (h : H p = some (.lst xs)) (h2 : H b = some (.lst zs)) (l : xs.length + zs.length ≤ sizeLine) (q : Q .non (upd H p (.lst (xs ++ zs)))) : rExtend (.ref p) [.ref b] H Q := ⟨p, b, xs, zs, rfl, rfl, h, h2, l, q⟩
theorem w_cat {p b : Addr} {xs zs : List V} (h : H p = some (.lst xs)) (h2 : H b = some (.lst zs)) (l : xs.length + zs.length ≤ sizeLine) (q : ∀ r, H r = none → Q (.ref r) (upd H r (.lst (xs ++ zs)))) : rCat (.ref p) (.ref b) H Q := ⟨p, b, xs, zs, rfl, rfl, h, h2, l, q⟩
theorem w_rep {p : Addr} {k : Int} {xs : List V} (h : H p = some (.lst xs)) (l1 : -(2 ^ 63) ≤ k) (l2 : k < 2 ^ 63) (l : xs.length * k.toNat ≤ sizeLine) (q : ∀ r, H r = none → Q (.ref r) (upd H r (.lst (List.replicate k.toNat xs).flatten))) : rRep (.ref p) (.int k) H Q :=
  ⟨p, k, xs, rfl, rfl, h, l1, l2, l, q⟩
theorem w_ixL {p : Addr} {xs : List V} {i : Int} (h : SqL K H p xs) (e : atI xs i = some v) (q : Q v H) : rIxL K (.ref p) (.int i) H Q := ⟨p, xs, i, v, rfl, rfl, h, e, q⟩
theorem w_ixT {p : Addr} {xs : List V} {i : Int} (h : SqT K H p xs) (e : atI xs i = some v) (q : Q v H) : rIxT K (.ref p) (.int i) H Q := ⟨p, xs, i, v, rfl, rfl, h, e, q⟩
theorem w_slL {p : Addr} {xs : List V} {lo hi : Option Int} (h : SqL K H p xs) (q : ∀ r, H r = none → Q (.ref r) (upd H r (.lst (cutV xs lo hi)))) : rSlL K (.ref p) lo hi H Q := ⟨p, xs, rfl, h, q⟩
theorem w_len {p : Addr} {xs : List V} (h : SqL K H p xs) (q : Q (.int (xs.length : Int)) H) : rLen K [.ref p] H Q := ⟨.ref p, xs.length, rfl, .inl ⟨xs, h, rfl⟩, q⟩
def forB (J : It) (g : TG) (t : TS) (D : Ends) (σ : L2.St) (H : Hp) : Prop := ∃ W : Nat → Nat → L2.St → Hp → Prop, (∃ m, W 0 m σ H) ∧ ∀ i m σ H, W i m σ H →
    (J.stop i H ∧ D.nx σ H) ∨ (J.go i H ∧ ∃ N : L2.St → Hp → Prop, (∀ σ' H', N σ' H' → ∃ m', m' < m ∧ W (i + 1) m' σ' H') ∧ ∀ x H', J.yld i H x H' → g x σ H' fun σ2 H2 => t { D with nx := N, ct := N, bk := D.nx } σ2 H2)
theorem w_for {wi : TI} {g : TG} (h : wi σ H fun J H1 => forB J g t D σ H1) : tFor wi g t D σ H := h
/-- a loop by its invariant over turn, slots, heap -/
theorem w_loop {J : It} {n : Nat} {G : Hp → Prop} {Y : Nat → Hp → V → Hp → Prop} (w : Walk J n G Y) {g : TG} (Pv : Nat → L2.St → Hp → Prop) (h0 : Pv 0 σ H) (hG : ∀ i σ H, i ≤ n → Pv i σ H → G H)
    (hs : ∀ i x σ H H', i < n → Pv i σ H → Y i H x H' → g x σ H' fun σ2 H2 => t { D with nx := Pv (i + 1), ct := Pv (i + 1), bk := D.nx } σ2 H2) (hd : ∀ σ H, Pv n σ H → D.nx σ H) : forB J g t D σ H := for_it w Pv h0 hG hs hd
def ilv (K : PySem.W.Frag) (x : V) (H : Hp) (R : It → Hp → Prop) : Prop := ∃ a, x = .ref a ∧ (∃ xs, SqL K H a xs) ∧ R (Itl K a) H
theorem w_ilist {R : It → Hp → Prop} (h : ta σ H fun x H1 => ilv K x H1 R) : iList K ta σ H R := h
theorem w_ilist2 {p : Addr} {xs : List V} {R : It → Hp → Prop} (h : SqL K H p xs) (q : R (Itl K p) H) : ilv K (.ref p) H R := ⟨p, rfl, ⟨xs, h⟩, q⟩
def rng1v (vs : List V) (H : Hp) (R : It → Hp → Prop) : Prop := ∃ j : Int, vs = [.int j] ∧ -(2 ^ 62) ≤ j ∧ j < 2 ^ 62 ∧ R (Itr 0 j.toNat) H
theorem w_rng1 {s : TA} {R : It → Hp → Prop} (h : s σ H fun vs H1 => rng1v vs H1 R) : iRng1 s σ H R := h
theorem w_rng1n {n : Nat} {R : It → Hp → Prop} (b : n < 2 ^ 62) (q : R (Itr 0 n) H) : rng1v [.int n] H R := ⟨n, rfl, by omega, by omega, by rw [Int.toNat_natCast]; exact q⟩
def revv (K : PySem.W.Frag) (vs : List V) (H : Hp) (R : It → Hp → Prop) : Prop := ∃ (a : Addr) (xs : List V), vs = [.ref a] ∧ SqL K H a xs ∧ R (Itv K a xs.length) H
theorem w_rev {s : TA} {R : It → Hp → Prop} (h : s σ H fun vs H1 => revv K vs H1 R) : iRev K s σ H R := h
theorem w_rev2 {p : Addr} {xs : List V} {R : It → Hp → Prop} (h : SqL K H p xs) (q : R (Itv K p xs.length) H) : revv K [.ref p] H R := ⟨p, xs, rfl, h, q⟩
def strv (x : V) (H : Hp) (R : It → Hp → Prop) : Prop := ∃ z, x = .str z ∧ R (Its z) H
theorem w_istr {R : It → Hp → Prop} (h : ta σ H fun x H1 => strv x H1 R) : iStr ta σ H R := h
theorem w_istr2 {z : Str} {R : It → Hp → Prop} (q : R (Its z) H) : strv (.str z) H R := ⟨z, rfl, q⟩
def zipv (K : PySem.W.Frag) (vs : List V) (H : Hp) (R : It → Hp → Prop) : Prop := ∃ a b xs ys, vs = [.ref a, .ref b] ∧ SqL K H a xs ∧ SqL K H b ys ∧ R (Itz K a b) H
theorem w_zip {s : TA} {R : It → Hp → Prop} (h : s σ H fun vs H1 => zipv K vs H1 R) : iZip K s σ H R := h
theorem w_zip2 {p b : Addr} {xs ys : List V} {R : It → Hp → Prop} (h : SqL K H p xs) (h2 : SqL K H b ys) (q : R (Itz K p b) H) : zipv K [.ref p, .ref b] H R := ⟨p, b, xs, ys, rfl, h, h2, q⟩
def enumv (K : PySem.W.Frag) (vs : List V) (H : Hp) (R : It → Hp → Prop) : Prop := ∃ a xs, vs = [.ref a] ∧ SqL K H a xs ∧ R (Ite K a) H
theorem w_enum {s : TA} {R : It → Hp → Prop} (h : s σ H fun vs H1 => enumv K vs H1 R) : iEnum K s σ H R := h
theorem w_enum2 {p : Addr} {xs : List V} {R : It → Hp → Prop} (h : SqL K H p xs) (q : R (Ite K p) H) : enumv K [.ref p] H R := ⟨p, xs, rfl, h, q⟩
/-- a comprehension: the new list at D -/
def lcB (J : It) (g : TG) (tt : TT) (te : TE) (ws : List Nat) (σ : L2.St) (H1 : Hp) (D : Addr) (Qd : Hp → Prop) : Prop := ∃ W : Nat → Nat → Hp → Prop, (∃ m, W 0 m (upd H1 D (.lst []))) ∧ ∀ i m H, W i m H →
  (J.stop i H ∧ Qd H) ∨ (J.go i H ∧ ∃ Nx : Hp → Prop, (∀ H', Nx H' → ∃ m', m' < m ∧ W (i + 1) m' H') ∧ ∀ x H', J.yld i H x H' → g x (wipe σ ws) H' fun σ2 H2 => wipe σ2 ws = wipe σ ws ∧ tt σ2 H2 fun b H3 =>
    if b = true then te σ2 H3 fun y H4 => ∃ acc, H4 D = some (.lst acc) ∧ acc.length < sizeLine ∧ Nx (upd H4 D (.lst (acc ++ [y]))) else Nx H3)
theorem w_lc {wi : TI} {g : TG} {tt : TT} {ws : List Nat} (h : wi σ H fun J H1 => ∀ p, H1 p = none → lcB J g tt te ws σ H1 p fun H2 => Q (.ref p) H2) : tLc wi g tt te ws σ H Q := h
/-- what a turn of a comprehension is to do: the heap at D -/
def accv (p : Addr) (R : Hp → Prop) (y : V) (H4 : Hp) : Prop := ∃ acc, H4 p = some (.lst acc) ∧ acc.length < sizeLine ∧ R (upd H4 p (.lst (acc ++ [y])))
theorem w_acc {p : Addr} {R : Hp → Prop} {acc : List V} (h : H p = some (.lst acc)) (l : acc.length < sizeLine) (q : R (upd H p (.lst (acc ++ [y])))) : accv p R y H := ⟨acc, h, l, q⟩
/-- a comprehension without a test whose body makes new things alone: the list is (f 0 .. f (n-1)) -/
theorem w_comp {J : It} {n : Nat} {G : Hp → Prop} {Y : Nat → Hp → V → Hp → Prop} (w : Walk J n G Y) {i0 : Nat} {p : Addr} {Qd : Hp → Prop} (f : Nat → V) (hn : n ≤ sizeLine) (np : H p = none) (s : ∀ H', Same H H' → G H')
    (hY : ∀ i x H' H'', i < n → Y i H' x H'' → Same H' H'')
    (hs : ∀ i x H' H'', i < n → Same H H' → Y i H' x H'' → ∀ R : VK, (∀ H4, Same H'' H4 → R (f i) H4) → te ((σ.set i0 none).set i0 (some x)) H'' R)
    (hd : ∀ H', Same H H' → H' p = some (.lst ((List.range n).map f)) → Qd H') : lcB J (gName i0) tYes te [i0] σ H p Qd := by
  refine lc_it w (fun i H' => Same H H' ∧ H' p = some (.lst ((List.range i).map f))) ⟨same_new np, upd_same⟩ (fun i H' _ h => s H' h.1) ?_ (fun H' h => hd H' h.1 h.2)
  intro i x H' H'' hi ⟨h1, h2⟩ hy
  have k := hY i x H' H'' hi hy
  refine ⟨?_, ?_⟩
  · show List.set ((σ.set i0 none).set i0 (some x)) i0 none = σ.set i0 none
    rw [List.set_set, List.set_set]
  · show te ((σ.set i0 none).set i0 (some x)) H'' fun y H4 => ∃ acc, H4 p = some (.lst acc) ∧ acc.length < sizeLine ∧ _
    refine hs i x H' H'' hi h1 hy _ fun H4 s4 => ?_
    have e4 : H4 p = some (.lst ((List.range i).map f)) := s4 _ _ (k _ _ h2)
    refine ⟨_, e4, by simp; omega, fun b o e => ?_, ?_⟩
    · rw [upd_ne (ne_of_none e np)]
      exact s4 _ _ (k _ _ (h1 _ _ e))
    · rw [upd_same, List.range_succ, List.map_append]
      rfl
/-- a while by an invariant with a number that falls -/
def whileB (I : Nat → L2.St → Hp → Prop) (m : Nat) (t : TS) (D : Ends) (σ : L2.St) (b : Bool) (H1 : Hp) : Prop := if b = true then ∃ N : L2.St → Hp → Prop, (∀ σ' H', N σ' H' → ∃ m', m' < m ∧ I m' σ' H') ∧ t { D with nx := N, ct := N, bk := D.nx } σ H1 else D.nx σ H1
theorem w_while {c : TT} (I : Nat → L2.St → Hp → Prop) (h0 : ∃ m, I m σ H) (h : ∀ m σ H, I m σ H → c σ H fun b H1 => whileB I m t D σ b H1) : tWhile c t D σ H := ⟨I, h0, h⟩
theorem w_wbool {I : Nat → L2.St → Hp → Prop} {m : Nat} {b : Bool} (h1 : b = true → t { D with nx := fun σ' H' => ∃ m', m' < m ∧ I m' σ' H', ct := fun σ' H' => ∃ m', m' < m ∧ I m' σ' H', bk := D.nx } σ H) (h2 : b = false → D.nx σ H) : whileB I m t D σ b H := by
  cases b with
  | true => exact ⟨_, fun _ _ h => h, h1 rfl⟩
  | false => exact h2 rfl
theorem w_wdec {I : Nat → L2.St → Hp → Prop} {m : Nat} {p : Prop} [Decidable p] (h1 : p → t { D with nx := fun σ' H' => ∃ m', m' < m ∧ I m' σ' H', ct := fun σ' H' => ∃ m', m' < m ∧ I m' σ' H', bk := D.nx } σ H) (h2 : ¬ p → D.nx σ H) : whileB I m t D σ (decide p) H :=
  w_wbool (fun e => h1 (of_decide_eq_true e)) fun e => h2 (of_decide_eq_false e)
theorem w_bool {b : Bool} {A B : Prop} (h1 : b = true → A) (h2 : b = false → B) : if b = true then A else B := by
  cases b with
  | true => exact h1 rfl
  | false => exact h2 rfl
theorem w_dec {p : Prop} [Decidable p] {A B : Prop} (h1 : p → A) (h2 : ¬ p → B) : if decide p = true then A else B := w_bool (fun h => h1 (of_decide_eq_true h)) fun h => h2 (of_decide_eq_false h)
theorem w_ndec {p : Prop} [Decidable p] {A B : Prop} (h1 : ¬ p → A) (h2 : p → B) : if (!decide p) = true then A else B := w_bool (fun h => h1 (by simpa using h)) fun h => h2 (by simpa using h)
theorem w_tt {A B : Prop} (h : A) : if true = true then A else B := h
theorem w_ff {A B : Prop} (h : B) : if false = true then A else B := h
theorem w_min {i j : Int} (q : Q (.int (if j < i then j else i)) H) : cMin2 [.int i, .int j] H Q := ⟨i, j, rfl, q⟩
end
end Dk
namespace Dk
open PySem PySem.Spec PyProof.Rows L2
section
variable {K : PySem.W.Frag} {σ : L2.St} {H : Hp} {Q : VK}
/-- making an object: the promise of __init__ at a new place -/
def makev (C : Addr) (sp : Sp) (E : XK) (vs : List V) (H : Hp) (Q : VK) : Prop := ∀ x dx, H x = none → H dx = none → dx ≠ x → sp (V.ref x :: (vs ++ [])) (upd (upd H dx (.own x)) x (.ins C dx [])) (fun v H2 => v = .non ∧ Q (.ref x) H2) E
theorem w_make {C : Addr} {sp : Sp} {E : XK} {s : TA} (h : s σ H fun vs H1 => makev C sp E vs H1 Q) : tMake C sp [] E s σ H Q := h
theorem made_same {H H1 : Hp} {x dx C : Addr} (nx : H x = Option.none) (nd : H dx = Option.none) (k : Keep [x] (upd (upd H dx (.own x)) x (.ins C dx [])) H1) : Same H H1 :=
  Same.made nx nd fun b o e n => k b o e (by simpa using n)
theorem ins_ne {H : Hp} {p q : Addr} {o u : HO} (h : H p = some o) (h2 : H q = some u) (d : o ≠ u) : p ∉ [q] := by simpa using ne_of h h2 d
theorem out_of {H : Hp} {p q : Addr} {o : HO} (h : H p = some o) (h2 : H q = none) : p ∉ [q] := by simpa using ne_of_none h h2
end
end Dk
namespace Dk
open PySem PySem.Spec PyProof.Rows L2
/-! ### the text by places (printed by gen.py) -/
def top (i : Nat) : Stmt := PySem.Challenge.pw_sparedisk_s01_answers.main.body.getD i (.Pass ⟨0, 0, 0, 0⟩)
abbrev s_Shape_init : Stmt := (inClass (top 12) 0)
abbrev N_Shape_init : List Str := ["self", "block_count", "place_count"]
theorem sc_Shape_init : FnScope N_Shape_init ["self", "block_count", "place_count"] (defScope s_Shape_init) := ⟨rfl, rfl, rfl, by decide +kernel, rfl, by decide +kernel, by decide +kernel⟩
abbrev s_Shape_block_of_home : Stmt := (inClass (top 12) 1)
abbrev N_Shape_block_of_home : List Str := ["self", "home"]
theorem sc_Shape_block_of_home : FnScope N_Shape_block_of_home ["self", "home"] (defScope s_Shape_block_of_home) := ⟨rfl, rfl, rfl, by decide +kernel, rfl, by decide +kernel, by decide +kernel⟩
abbrev s_Shape_block_of_place : Stmt := (inClass (top 12) 2)
abbrev N_Shape_block_of_place : List Str := ["self", "place"]
theorem sc_Shape_block_of_place : FnScope N_Shape_block_of_place ["self", "place"] (defScope s_Shape_block_of_place) := ⟨rfl, rfl, rfl, by decide +kernel, rfl, by decide +kernel, by decide +kernel⟩
abbrev s_Head_init : Stmt := (inClass (top 13) 0)
abbrev N_Head_init : List Str := ["self", "generation", "shape", "number", "place"]
theorem sc_Head_init : FnScope N_Head_init ["self", "generation", "shape", "number", "place"] (defScope s_Head_init) := ⟨rfl, rfl, rfl, by decide +kernel, rfl, by decide +kernel, by decide +kernel⟩
abbrev s_Transaction_init : Stmt := (inClass (top 14) 0)
abbrev N_Transaction_init : List Str := ["self", "homes", "blocks"]
theorem sc_Transaction_init : FnScope N_Transaction_init ["self", "homes", "blocks"] (defScope s_Transaction_init) := ⟨rfl, rfl, rfl, by decide +kernel, rfl, by decide +kernel, by decide +kernel⟩
abbrev s_Found_init : Stmt := (inClass (top 27) 0)
abbrev N_Found_init : List Str := ["self", "head", "transactions", "place"]
theorem sc_Found_init : FnScope N_Found_init ["self", "head", "transactions", "place"] (defScope s_Found_init) := ⟨rfl, rfl, rfl, by decide +kernel, rfl, by decide +kernel, by decide +kernel⟩
abbrev s_Medium_init : Stmt := (inClass (top 31) 0)
abbrev N_Medium_init : List Str := ["self", "blocks"]
theorem sc_Medium_init : FnScope N_Medium_init ["self", "blocks"] (defScope s_Medium_init) := ⟨rfl, rfl, rfl, by decide +kernel, rfl, by decide +kernel, by decide +kernel⟩
abbrev s_Medium_wait : Stmt := (inClass (top 31) 2)
abbrev N_Medium_wait : List Str := ["self", "b", "block"]
theorem sc_Medium_wait : FnScope N_Medium_wait ["self"] (defScope s_Medium_wait) := ⟨rfl, rfl, rfl, by decide +kernel, rfl, by decide +kernel, by decide +kernel⟩
abbrev s_Medium_act : Stmt := (inClass (top 31) 1)
abbrev N_Medium_act : List Str := ["self", "action"]
theorem sc_Medium_act : FnScope N_Medium_act ["self", "action"] (defScope s_Medium_act) := ⟨rfl, rfl, rfl, by decide +kernel, rfl, by decide +kernel, by decide +kernel⟩
abbrev s_Medium_put_first_bytes : Stmt := (inClass (top 31) 4)
abbrev N_Medium_put_first_bytes : List Str := ["self", "write", "size", "b"]
theorem sc_Medium_put_first_bytes : FnScope N_Medium_put_first_bytes ["self", "write", "size"] (defScope s_Medium_put_first_bytes) := ⟨rfl, rfl, rfl, by decide +kernel, rfl, by decide +kernel, by decide +kernel⟩
abbrev s_Medium_arrive : Stmt := (inClass (top 31) 3)
abbrev N_Medium_arrive : List Str := ["self", "row", "x", "which"]
theorem sc_Medium_arrive : FnScope N_Medium_arrive ["self", "row"] (defScope s_Medium_arrive) := ⟨rfl, rfl, rfl, by decide +kernel, rfl, by decide +kernel, by decide +kernel⟩
abbrev s_Medium_lose : Stmt := (inClass (top 31) 5)
abbrev N_Medium_lose : List Str := ["self"]
theorem sc_Medium_lose : FnScope N_Medium_lose ["self"] (defScope s_Medium_lose) := ⟨rfl, rfl, rfl, by decide +kernel, rfl, by decide +kernel, by decide +kernel⟩
abbrev s_Known_init : Stmt := (inClass (top 33) 0)
abbrev N_Known_init : List Str := ["self", "head"]
theorem sc_Known_init : FnScope N_Known_init ["self", "head"] (defScope s_Known_init) := ⟨rfl, rfl, rfl, by decide +kernel, rfl, by decide +kernel, by decide +kernel⟩
abbrev s_Operation_init : Stmt := (inClass (top 34) 0)
abbrev N_Operation_init : List Str := ["self", "answer", "actions", "known"]
theorem sc_Operation_init : FnScope N_Operation_init ["self", "answer", "actions", "known"] (defScope s_Operation_init) := ⟨rfl, rfl, rfl, by decide +kernel, rfl, by decide +kernel, by decide +kernel⟩
abbrev s_Drive_init : Stmt := (inClass (top 48) 0)
abbrev N_Drive_init : List Str := ["self"]
theorem sc_Drive_init : FnScope N_Drive_init ["self"] (defScope s_Drive_init) := ⟨rfl, rfl, rfl, by decide +kernel, rfl, by decide +kernel, by decide +kernel⟩
abbrev s_block_count_is_allowed : Stmt := (top 15)
abbrev N_block_count_is_allowed : List Str := ["block_count"]
theorem sc_block_count_is_allowed : FnScope N_block_count_is_allowed ["block_count"] (defScope s_block_count_is_allowed) := ⟨rfl, rfl, rfl, by decide +kernel, rfl, by decide +kernel, by decide +kernel⟩
abbrev s_shape_is_allowed : Stmt := (top 16)
abbrev N_shape_is_allowed : List Str := ["block_count", "place_count"]
theorem sc_shape_is_allowed : FnScope N_shape_is_allowed ["block_count", "place_count"] (defScope s_shape_is_allowed) := ⟨rfl, rfl, rfl, by decide +kernel, rfl, by decide +kernel, by decide +kernel⟩
abbrev s_letters : Stmt := (top 19)
abbrev N_letters : List Str := ["word", "letter"]
theorem sc_letters : FnScope N_letters ["word"] (defScope s_letters) := ⟨rfl, rfl, rfl, by decide +kernel, rfl, by decide +kernel, by decide +kernel⟩
abbrev s_number_bytes : Stmt := (top 20)
abbrev N_number_bytes : List Str := ["value", "size", "k"]
theorem sc_number_bytes : FnScope N_number_bytes ["value", "size"] (defScope s_number_bytes) := ⟨rfl, rfl, rfl, by decide +kernel, rfl, by decide +kernel, by decide +kernel⟩
abbrev s_sum_of : Stmt := (top 3)
abbrev N_sum_of : List Str := ["data", "c", "byte"]
theorem sc_sum_of : FnScope N_sum_of ["data"] (defScope s_sum_of) := ⟨rfl, rfl, rfl, by decide +kernel, rfl, by decide +kernel, by decide +kernel⟩
abbrev s_head_block : Stmt := (top 22)
abbrev N_head_block : List Str := ["head", "data"]
theorem sc_head_block : FnScope N_head_block ["head"] (defScope s_head_block) := ⟨rfl, rfl, rfl, by decide +kernel, rfl, by decide +kernel, by decide +kernel⟩
abbrev s_Drive_make : Stmt := (inClass (top 48) 1)
abbrev N_Drive_make : List Str := ["self", "block_count", "place_count", "shape", "newer", "heads"]
theorem sc_Drive_make : FnScope N_Drive_make ["self", "block_count", "place_count"] (defScope s_Drive_make) := ⟨rfl, rfl, rfl, by decide +kernel, rfl, by decide +kernel, by decide +kernel⟩
abbrev s_Drive_read : Stmt := (inClass (top 48) 2)
abbrev N_Drive_read : List Str := ["self", "home", "shape"]
theorem sc_Drive_read : FnScope N_Drive_read ["self", "home"] (defScope s_Drive_read) := ⟨rfl, rfl, rfl, by decide +kernel, rfl, by decide +kernel, by decide +kernel⟩
abbrev s_refused : Stmt := (top 35)
abbrev N_refused : List Str := ["answer"]
theorem sc_refused : FnScope N_refused ["answer"] (defScope s_refused) := ⟨rfl, rfl, rfl, by decide +kernel, rfl, by decide +kernel, by decide +kernel⟩
abbrev s_number_at : Stmt := (top 21)
abbrev N_number_at : List Str := ["block", "start", "size", "value", "byte"]
theorem sc_number_at : FnScope N_number_at ["block", "start", "size"] (defScope s_number_at) := ⟨rfl, rfl, rfl, by decide +kernel, rfl, by decide +kernel, by decide +kernel⟩
abbrev s_head_in : Stmt := (top 23)
abbrev N_head_in : List Str := ["blocks", "b", "block", "shape", "head"]
theorem sc_head_in : FnScope N_head_in ["blocks", "b"] (defScope s_head_in) := ⟨rfl, rfl, rfl, by decide +kernel, rfl, by decide +kernel, by decide +kernel⟩
abbrev s_counting_head : Stmt := (top 28)
abbrev N_counting_head : List Str := ["blocks", "even", "odd"]
theorem sc_counting_head : FnScope N_counting_head ["blocks"] (defScope s_counting_head) := ⟨rfl, rfl, rfl, by decide +kernel, rfl, by decide +kernel, by decide +kernel⟩
abbrev s_homes_are_allowed : Stmt := (top 17)
abbrev N_homes_are_allowed : List Str := ["homes", "home_count"]
theorem sc_homes_are_allowed : FnScope N_homes_are_allowed ["homes", "home_count"] (defScope s_homes_are_allowed) := ⟨rfl, rfl, rfl, by decide +kernel, rfl, by decide +kernel, by decide +kernel⟩
abbrev s_transaction_blocks : Stmt := (top 24)
abbrev N_transaction_blocks : List Str := ["number", "transaction", "first", "others", "home", "block"]
theorem sc_transaction_blocks : FnScope N_transaction_blocks ["number", "transaction"] (defScope s_transaction_blocks) := ⟨rfl, rfl, rfl, by decide +kernel, rfl, by decide +kernel, by decide +kernel⟩
abbrev s_transaction_at : Stmt := (top 25)
abbrev N_transaction_at : List Str := ["journal", "place", "number", "home_count", "first", "count", "written", "homes", "blocks", "k", "entry", "lying", "transaction"]
theorem sc_transaction_at : FnScope N_transaction_at ["journal", "place", "number", "home_count"] (defScope s_transaction_at) := ⟨rfl, rfl, rfl, by decide +kernel, rfl, by decide +kernel, by decide +kernel⟩
abbrev s_found_on : Stmt := (top 29)
abbrev N_found_on : List Str := ["blocks", "head", "shape", "journal", "transactions", "place", "number", "transaction"]
theorem sc_found_on : FnScope N_found_on ["blocks"] (defScope s_found_on) := ⟨rfl, rfl, rfl, by decide +kernel, rfl, by decide +kernel, by decide +kernel⟩
abbrev s_home_writes : Stmt := (top 37)
abbrev N_home_writes : List Str := ["shape", "newest", "home"]
theorem sc_home_writes : FnScope N_home_writes ["shape", "newest"] (defScope s_home_writes) := ⟨rfl, rfl, rfl, by decide +kernel, rfl, by decide +kernel, by decide +kernel⟩
abbrev s_head_write : Stmt := (top 38)
abbrev N_head_write : List Str := ["head"]
theorem sc_head_write : FnScope N_head_write ["head"] (defScope s_head_write) := ⟨rfl, rfl, rfl, by decide +kernel, rfl, by decide +kernel, by decide +kernel⟩
abbrev s_mend_operation : Stmt := (top 42)
abbrev N_mend_operation : List Str := ["blocks", "found", "shape", "newest", "transaction", "home", "block", "number", "head", "actions"]
theorem sc_mend_operation : FnScope N_mend_operation ["blocks"] (defScope s_mend_operation) := ⟨rfl, rfl, rfl, by decide +kernel, rfl, by decide +kernel, by decide +kernel⟩
abbrev s_split_blocks : Stmt := (top 18)
abbrev N_split_blocks : List Str := ["data", "at"]
theorem sc_split_blocks : FnScope N_split_blocks ["data"] (defScope s_split_blocks) := ⟨rfl, rfl, rfl, by decide +kernel, rfl, by decide +kernel, by decide +kernel⟩
abbrev s_settle_operation : Stmt := (top 41)
abbrev N_settle_operation : List Str := ["known", "shape", "head", "actions"]
theorem sc_settle_operation : FnScope N_settle_operation ["known"] (defScope s_settle_operation) := ⟨rfl, rfl, rfl, by decide +kernel, rfl, by decide +kernel, by decide +kernel⟩
abbrev s_known_behind : Stmt := (top 36)
abbrev N_known_behind : List Str := ["known", "transaction", "size", "behind", "home", "block"]
theorem sc_known_behind : FnScope N_known_behind ["known", "transaction"] (defScope s_known_behind) := ⟨rfl, rfl, rfl, by decide +kernel, rfl, by decide +kernel, by decide +kernel⟩
abbrev s_commit_operation : Stmt := (top 39)
abbrev N_commit_operation : List Str := ["known", "homes", "data", "shape", "transaction", "actions", "ahead", "settling", "k", "block"]
theorem sc_commit_operation : FnScope N_commit_operation ["known", "homes", "data"] (defScope s_commit_operation) := ⟨rfl, rfl, rfl, by decide +kernel, rfl, by decide +kernel, by decide +kernel⟩
abbrev s_flush_operation : Stmt := (top 40)
abbrev N_flush_operation : List Str := ["known"]
theorem sc_flush_operation : FnScope N_flush_operation ["known"] (defScope s_flush_operation) := ⟨rfl, rfl, rfl, by decide +kernel, rfl, by decide +kernel, by decide +kernel⟩
abbrev s_Drive_operation : Stmt := (inClass (top 48) 3)
abbrev N_Drive_operation : List Str := ["self", "kind", "homes", "data"]
theorem sc_Drive_operation : FnScope N_Drive_operation ["self", "kind", "homes", "data"] (defScope s_Drive_operation) := ⟨rfl, rfl, rfl, by decide +kernel, rfl, by decide +kernel, by decide +kernel⟩
abbrev s_Drive_operate : Stmt := (inClass (top 48) 4)
abbrev N_Drive_operate : List Str := ["self", "kind", "homes", "data", "operation", "action"]
theorem sc_Drive_operate : FnScope N_Drive_operate ["self", "kind", "homes", "data"] (defScope s_Drive_operate) := ⟨rfl, rfl, rfl, by decide +kernel, rfl, by decide +kernel, by decide +kernel⟩
abbrev s_Drive_cut : Stmt := (inClass (top 48) 5)
abbrev N_Drive_cut : List Str := ["self", "row"]
theorem sc_Drive_cut : FnScope N_Drive_cut ["self", "row"] (defScope s_Drive_cut) := ⟨rfl, rfl, rfl, by decide +kernel, rfl, by decide +kernel, by decide +kernel⟩
abbrev s_Drive_cut_in : Stmt := (inClass (top 48) 6)
abbrev N_Drive_cut_in : List Str := ["self", "after", "operation", "row", "action"]
theorem sc_Drive_cut_in : FnScope N_Drive_cut_in ["self", "after", "operation", "row"] (defScope s_Drive_cut_in) := ⟨rfl, rfl, rfl, by decide +kernel, rfl, by decide +kernel, by decide +kernel⟩
abbrev s_Drive_arrive : Stmt := (inClass (top 48) 7)
abbrev N_Drive_arrive : List Str := ["self", "row"]
theorem sc_Drive_arrive : FnScope N_Drive_arrive ["self", "row"] (defScope s_Drive_arrive) := ⟨rfl, rfl, rfl, by decide +kernel, rfl, by decide +kernel, by decide +kernel⟩
abbrev s_Drive_told : Stmt := (inClass (top 48) 8)
abbrev N_Drive_told : List Str := ["self", "known", "shape", "sizes"]
theorem sc_Drive_told : FnScope N_Drive_told ["self"] (defScope s_Drive_told) := ⟨rfl, rfl, rfl, by decide +kernel, rfl, by decide +kernel, by decide +kernel⟩
abbrev s_Drive_block : Stmt := (inClass (top 48) 9)
abbrev N_Drive_block : List Str := ["self", "b"]
theorem sc_Drive_block : FnScope N_Drive_block ["self", "b"] (defScope s_Drive_block) := ⟨rfl, rfl, rfl, by decide +kernel, rfl, by decide +kernel, by decide +kernel⟩
abbrev s_Drive_look : Stmt := (inClass (top 48) 10)
abbrev N_Drive_look : List Str := ["self", "found", "answer", "transaction"]
theorem sc_Drive_look : FnScope N_Drive_look ["self"] (defScope s_Drive_look) := ⟨rfl, rfl, rfl, by decide +kernel, rfl, by decide +kernel, by decide +kernel⟩
abbrev s_Drive_save : Stmt := (inClass (top 48) 11)
abbrev N_Drive_save : List Str := ["self", "answer", "block"]
theorem sc_Drive_save : FnScope N_Drive_save ["self"] (defScope s_Drive_save) := ⟨rfl, rfl, rfl, by decide +kernel, rfl, by decide +kernel, by decide +kernel⟩
abbrev s_Drive_load : Stmt := (inClass (top 48) 12)
abbrev N_Drive_load : List Str := ["self", "data"]
theorem sc_Drive_load : FnScope N_Drive_load ["self", "data"] (defScope s_Drive_load) := ⟨rfl, rfl, rfl, by decide +kernel, rfl, by decide +kernel, by decide +kernel⟩
abbrev s_Drive_plan : Stmt := (inClass (top 48) 13)
abbrev N_Drive_plan : List Str := ["self", "kind", "homes", "data", "operation", "answer", "action"]
theorem sc_Drive_plan : FnScope N_Drive_plan ["self", "kind", "homes", "data"] (defScope s_Drive_plan) := ⟨rfl, rfl, rfl, by decide +kernel, rfl, by decide +kernel, by decide +kernel⟩
abbrev s_Reader_init : Stmt := (inClass (top 50) 0)
abbrev N_Reader_init : List Str := ["self", "calls"]
theorem sc_Reader_init : FnScope N_Reader_init ["self", "calls"] (defScope s_Reader_init) := ⟨rfl, rfl, rfl, by decide +kernel, rfl, by decide +kernel, by decide +kernel⟩
abbrev s_Reader_is_at_end : Stmt := (inClass (top 50) 1)
abbrev N_Reader_is_at_end : List Str := ["self"]
theorem sc_Reader_is_at_end : FnScope N_Reader_is_at_end ["self"] (defScope s_Reader_is_at_end) := ⟨rfl, rfl, rfl, by decide +kernel, rfl, by decide +kernel, by decide +kernel⟩
abbrev s_Reader_take : Stmt := (inClass (top 50) 2)
abbrev N_Reader_take : List Str := ["self"]
theorem sc_Reader_take : FnScope N_Reader_take ["self"] (defScope s_Reader_take) := ⟨rfl, rfl, rfl, by decide +kernel, rfl, by decide +kernel, by decide +kernel⟩
abbrev s_Reader_take_row : Stmt := (inClass (top 50) 3)
abbrev N_Reader_take_row : List Str := ["self", "size"]
theorem sc_Reader_take_row : FnScope N_Reader_take_row ["self"] (defScope s_Reader_take_row) := ⟨rfl, rfl, rfl, by decide +kernel, rfl, by decide +kernel, by decide +kernel⟩
abbrev s_call_make : Stmt := (top 51)
abbrev N_call_make : List Str := ["drive", "reader", "block_count", "place_count"]
theorem sc_call_make : FnScope N_call_make ["drive", "reader"] (defScope s_call_make) := ⟨rfl, rfl, rfl, by decide +kernel, rfl, by decide +kernel, by decide +kernel⟩
abbrev s_call_read : Stmt := (top 52)
abbrev N_call_read : List Str := ["drive", "reader"]
theorem sc_call_read : FnScope N_call_read ["drive", "reader"] (defScope s_call_read) := ⟨rfl, rfl, rfl, by decide +kernel, rfl, by decide +kernel, by decide +kernel⟩
abbrev s_call_commit : Stmt := (top 53)
abbrev N_call_commit : List Str := ["drive", "reader", "homes", "data"]
theorem sc_call_commit : FnScope N_call_commit ["drive", "reader"] (defScope s_call_commit) := ⟨rfl, rfl, rfl, by decide +kernel, rfl, by decide +kernel, by decide +kernel⟩
abbrev s_call_flush : Stmt := (top 54)
abbrev N_call_flush : List Str := ["drive", "reader"]
theorem sc_call_flush : FnScope N_call_flush ["drive", "reader"] (defScope s_call_flush) := ⟨rfl, rfl, rfl, by decide +kernel, rfl, by decide +kernel, by decide +kernel⟩
abbrev s_call_settle : Stmt := (top 55)
abbrev N_call_settle : List Str := ["drive", "reader"]
theorem sc_call_settle : FnScope N_call_settle ["drive", "reader"] (defScope s_call_settle) := ⟨rfl, rfl, rfl, by decide +kernel, rfl, by decide +kernel, by decide +kernel⟩
abbrev s_call_mend : Stmt := (top 56)
abbrev N_call_mend : List Str := ["drive", "reader"]
theorem sc_call_mend : FnScope N_call_mend ["drive", "reader"] (defScope s_call_mend) := ⟨rfl, rfl, rfl, by decide +kernel, rfl, by decide +kernel, by decide +kernel⟩
abbrev s_call_cut : Stmt := (top 57)
abbrev N_call_cut : List Str := ["drive", "reader"]
theorem sc_call_cut : FnScope N_call_cut ["drive", "reader"] (defScope s_call_cut) := ⟨rfl, rfl, rfl, by decide +kernel, rfl, by decide +kernel, by decide +kernel⟩
abbrev s_call_cut_in : Stmt := (top 58)
abbrev N_call_cut_in : List Str := ["drive", "reader", "after", "kind", "row", "homes", "data"]
theorem sc_call_cut_in : FnScope N_call_cut_in ["drive", "reader"] (defScope s_call_cut_in) := ⟨rfl, rfl, rfl, by decide +kernel, rfl, by decide +kernel, by decide +kernel⟩
abbrev s_call_arrive : Stmt := (top 59)
abbrev N_call_arrive : List Str := ["drive", "reader"]
theorem sc_call_arrive : FnScope N_call_arrive ["drive", "reader"] (defScope s_call_arrive) := ⟨rfl, rfl, rfl, by decide +kernel, rfl, by decide +kernel, by decide +kernel⟩
abbrev s_call_told : Stmt := (top 60)
abbrev N_call_told : List Str := ["drive", "reader"]
theorem sc_call_told : FnScope N_call_told ["drive", "reader"] (defScope s_call_told) := ⟨rfl, rfl, rfl, by decide +kernel, rfl, by decide +kernel, by decide +kernel⟩
abbrev s_call_block : Stmt := (top 61)
abbrev N_call_block : List Str := ["drive", "reader"]
theorem sc_call_block : FnScope N_call_block ["drive", "reader"] (defScope s_call_block) := ⟨rfl, rfl, rfl, by decide +kernel, rfl, by decide +kernel, by decide +kernel⟩
abbrev s_call_look : Stmt := (top 62)
abbrev N_call_look : List Str := ["drive", "reader"]
theorem sc_call_look : FnScope N_call_look ["drive", "reader"] (defScope s_call_look) := ⟨rfl, rfl, rfl, by decide +kernel, rfl, by decide +kernel, by decide +kernel⟩
abbrev s_call_save : Stmt := (top 63)
abbrev N_call_save : List Str := ["drive", "reader"]
theorem sc_call_save : FnScope N_call_save ["drive", "reader"] (defScope s_call_save) := ⟨rfl, rfl, rfl, by decide +kernel, rfl, by decide +kernel, by decide +kernel⟩
abbrev s_call_load : Stmt := (top 64)
abbrev N_call_load : List Str := ["drive", "reader"]
theorem sc_call_load : FnScope N_call_load ["drive", "reader"] (defScope s_call_load) := ⟨rfl, rfl, rfl, by decide +kernel, rfl, by decide +kernel, by decide +kernel⟩
abbrev s_call_plan : Stmt := (top 65)
abbrev N_call_plan : List Str := ["drive", "reader", "kind", "homes", "data"]
theorem sc_call_plan : FnScope N_call_plan ["drive", "reader"] (defScope s_call_plan) := ⟨rfl, rfl, rfl, by decide +kernel, rfl, by decide +kernel, by decide +kernel⟩
abbrev s_call_sum : Stmt := (top 66)
abbrev N_call_sum : List Str := ["drive", "reader"]
theorem sc_call_sum : FnScope N_call_sum ["drive", "reader"] (defScope s_call_sum) := ⟨rfl, rfl, rfl, by decide +kernel, rfl, by decide +kernel, by decide +kernel⟩
abbrev s_answers : Stmt := (top 68)
abbrev N_answers : List Str := ["calls", "reader", "drive", "told", "call", "answer"]
theorem sc_answers : FnScope N_answers ["calls"] (defScope s_answers) := ⟨rfl, rfl, rfl, by decide +kernel, rfl, by decide +kernel, by decide +kernel⟩
/-- where the top has put its things -/
structure Ad where
  c_Shape : Addr
  c_Head : Addr
  c_Transaction : Addr
  c_Found : Addr
  c_Medium : Addr
  c_Known : Addr
  c_Operation : Addr
  c_Drive : Addr
  c_Reader : Addr
  f_Shape_init : Addr
  d_Shape_init : FuncData
  f_Shape_block_of_home : Addr
  d_Shape_block_of_home : FuncData
  f_Shape_block_of_place : Addr
  d_Shape_block_of_place : FuncData
  f_Head_init : Addr
  d_Head_init : FuncData
  f_Transaction_init : Addr
  d_Transaction_init : FuncData
  f_Found_init : Addr
  d_Found_init : FuncData
  f_Medium_init : Addr
  d_Medium_init : FuncData
  f_Medium_wait : Addr
  d_Medium_wait : FuncData
  f_Medium_act : Addr
  d_Medium_act : FuncData
  f_Medium_put_first_bytes : Addr
  d_Medium_put_first_bytes : FuncData
  f_Medium_arrive : Addr
  d_Medium_arrive : FuncData
  f_Medium_lose : Addr
  d_Medium_lose : FuncData
  f_Known_init : Addr
  d_Known_init : FuncData
  f_Operation_init : Addr
  d_Operation_init : FuncData
  f_Drive_init : Addr
  d_Drive_init : FuncData
  f_block_count_is_allowed : Addr
  d_block_count_is_allowed : FuncData
  f_shape_is_allowed : Addr
  d_shape_is_allowed : FuncData
  f_letters : Addr
  d_letters : FuncData
  f_number_bytes : Addr
  d_number_bytes : FuncData
  f_sum_of : Addr
  d_sum_of : FuncData
  f_head_block : Addr
  d_head_block : FuncData
  f_Drive_make : Addr
  d_Drive_make : FuncData
  f_Drive_read : Addr
  d_Drive_read : FuncData
  f_refused : Addr
  d_refused : FuncData
  f_number_at : Addr
  d_number_at : FuncData
  f_head_in : Addr
  d_head_in : FuncData
  f_counting_head : Addr
  d_counting_head : FuncData
  f_homes_are_allowed : Addr
  d_homes_are_allowed : FuncData
  f_transaction_blocks : Addr
  d_transaction_blocks : FuncData
  f_transaction_at : Addr
  d_transaction_at : FuncData
  f_found_on : Addr
  d_found_on : FuncData
  f_home_writes : Addr
  d_home_writes : FuncData
  f_head_write : Addr
  d_head_write : FuncData
  f_mend_operation : Addr
  d_mend_operation : FuncData
  f_split_blocks : Addr
  d_split_blocks : FuncData
  f_settle_operation : Addr
  d_settle_operation : FuncData
  f_known_behind : Addr
  d_known_behind : FuncData
  f_commit_operation : Addr
  d_commit_operation : FuncData
  f_flush_operation : Addr
  d_flush_operation : FuncData
  f_Drive_operation : Addr
  d_Drive_operation : FuncData
  f_Drive_operate : Addr
  d_Drive_operate : FuncData
  f_Drive_cut : Addr
  d_Drive_cut : FuncData
  f_Drive_cut_in : Addr
  d_Drive_cut_in : FuncData
  f_Drive_arrive : Addr
  d_Drive_arrive : FuncData
  f_Drive_told : Addr
  d_Drive_told : FuncData
  f_Drive_block : Addr
  d_Drive_block : FuncData
  f_Drive_look : Addr
  d_Drive_look : FuncData
  f_Drive_save : Addr
  d_Drive_save : FuncData
  f_Drive_load : Addr
  d_Drive_load : FuncData
  f_Drive_plan : Addr
  d_Drive_plan : FuncData
  f_Reader_init : Addr
  d_Reader_init : FuncData
  f_Reader_is_at_end : Addr
  d_Reader_is_at_end : FuncData
  f_Reader_take : Addr
  d_Reader_take : FuncData
  f_Reader_take_row : Addr
  d_Reader_take_row : FuncData
  f_call_make : Addr
  d_call_make : FuncData
  f_call_read : Addr
  d_call_read : FuncData
  f_call_commit : Addr
  d_call_commit : FuncData
  f_call_flush : Addr
  d_call_flush : FuncData
  f_call_settle : Addr
  d_call_settle : FuncData
  f_call_mend : Addr
  d_call_mend : FuncData
  f_call_cut : Addr
  d_call_cut : FuncData
  f_call_cut_in : Addr
  d_call_cut_in : FuncData
  f_call_arrive : Addr
  d_call_arrive : FuncData
  f_call_told : Addr
  d_call_told : FuncData
  f_call_block : Addr
  d_call_block : FuncData
  f_call_look : Addr
  d_call_look : FuncData
  f_call_save : Addr
  d_call_save : FuncData
  f_call_load : Addr
  d_call_load : FuncData
  f_call_plan : Addr
  d_call_plan : FuncData
  f_call_sum : Addr
  d_call_sum : FuncData
  f_answers : Addr
  d_answers : FuncData
  k_FOUR_STEPS : Addr
  k_CALLS : Addr
/-- what stands there -/
structure Tx (K : PySem.W.Frag) (mg : Str → Option Value) (a : Ad) : Prop where
  c_Shape : ClsT K mg "Shape" a.c_Shape a.f_Shape_init ["block_count", "place_count", "home_count"]
  c_Head : ClsT K mg "Head" a.c_Head a.f_Head_init ["generation", "shape", "number", "place"]
  c_Transaction : ClsT K mg "Transaction" a.c_Transaction a.f_Transaction_init ["homes", "blocks"]
  c_Found : ClsT K mg "Found" a.c_Found a.f_Found_init ["head", "transactions", "place"]
  c_Medium : ClsT K mg "Medium" a.c_Medium a.f_Medium_init ["blocks", "on_way"]
  c_Known : ClsT K mg "Known" a.c_Known a.f_Known_init ["head", "number", "place", "taken", "newest"]
  c_Operation : ClsT K mg "Operation" a.c_Operation a.f_Operation_init ["answer", "actions", "known"]
  c_Drive : ClsT K mg "Drive" a.c_Drive a.f_Drive_init ["medium", "known"]
  c_Reader : ClsT K mg "Reader" a.c_Reader a.f_Reader_init ["calls", "at"]
  Shape_init : FunT K "__init__" "Shape.__init__" s_Shape_init ["self", "block_count", "place_count"] a.f_Shape_init a.d_Shape_init
  Shape_block_of_home : MethT K a.c_Shape "block_of_home" "Shape.block_of_home" s_Shape_block_of_home ["self", "home"] a.f_Shape_block_of_home a.d_Shape_block_of_home
  Shape_block_of_place : MethT K a.c_Shape "block_of_place" "Shape.block_of_place" s_Shape_block_of_place ["self", "place"] a.f_Shape_block_of_place a.d_Shape_block_of_place
  Head_init : FunT K "__init__" "Head.__init__" s_Head_init ["self", "generation", "shape", "number", "place"] a.f_Head_init a.d_Head_init
  Transaction_init : FunT K "__init__" "Transaction.__init__" s_Transaction_init ["self", "homes", "blocks"] a.f_Transaction_init a.d_Transaction_init
  Found_init : FunT K "__init__" "Found.__init__" s_Found_init ["self", "head", "transactions", "place"] a.f_Found_init a.d_Found_init
  Medium_init : FunT K "__init__" "Medium.__init__" s_Medium_init ["self", "blocks"] a.f_Medium_init a.d_Medium_init
  Medium_wait : MethT K a.c_Medium "wait" "Medium.wait" s_Medium_wait ["self"] a.f_Medium_wait a.d_Medium_wait
  Medium_act : MethT K a.c_Medium "act" "Medium.act" s_Medium_act ["self", "action"] a.f_Medium_act a.d_Medium_act
  Medium_put_first_bytes : MethT K a.c_Medium "put_first_bytes" "Medium.put_first_bytes" s_Medium_put_first_bytes ["self", "write", "size"] a.f_Medium_put_first_bytes a.d_Medium_put_first_bytes
  Medium_arrive : MethT K a.c_Medium "arrive" "Medium.arrive" s_Medium_arrive ["self", "row"] a.f_Medium_arrive a.d_Medium_arrive
  Medium_lose : MethT K a.c_Medium "lose" "Medium.lose" s_Medium_lose ["self"] a.f_Medium_lose a.d_Medium_lose
  Known_init : FunT K "__init__" "Known.__init__" s_Known_init ["self", "head"] a.f_Known_init a.d_Known_init
  Operation_init : FunT K "__init__" "Operation.__init__" s_Operation_init ["self", "answer", "actions", "known"] a.f_Operation_init a.d_Operation_init
  Drive_init : FunT K "__init__" "Drive.__init__" s_Drive_init ["self"] a.f_Drive_init a.d_Drive_init
  block_count_is_allowed : DefT K mg "block_count_is_allowed" s_block_count_is_allowed ["block_count"] a.f_block_count_is_allowed a.d_block_count_is_allowed
  shape_is_allowed : DefT K mg "shape_is_allowed" s_shape_is_allowed ["block_count", "place_count"] a.f_shape_is_allowed a.d_shape_is_allowed
  letters : DefT K mg "letters" s_letters ["word"] a.f_letters a.d_letters
  number_bytes : DefT K mg "number_bytes" s_number_bytes ["value", "size"] a.f_number_bytes a.d_number_bytes
  sum_of : DefT K mg "sum_of" s_sum_of ["data"] a.f_sum_of a.d_sum_of
  head_block : DefT K mg "head_block" s_head_block ["head"] a.f_head_block a.d_head_block
  Drive_make : MethT K a.c_Drive "make" "Drive.make" s_Drive_make ["self", "block_count", "place_count"] a.f_Drive_make a.d_Drive_make
  Drive_read : MethT K a.c_Drive "read" "Drive.read" s_Drive_read ["self", "home"] a.f_Drive_read a.d_Drive_read
  refused : DefT K mg "refused" s_refused ["answer"] a.f_refused a.d_refused
  number_at : DefT K mg "number_at" s_number_at ["block", "start", "size"] a.f_number_at a.d_number_at
  head_in : DefT K mg "head_in" s_head_in ["blocks", "b"] a.f_head_in a.d_head_in
  counting_head : DefT K mg "counting_head" s_counting_head ["blocks"] a.f_counting_head a.d_counting_head
  homes_are_allowed : DefT K mg "homes_are_allowed" s_homes_are_allowed ["homes", "home_count"] a.f_homes_are_allowed a.d_homes_are_allowed
  transaction_blocks : DefT K mg "transaction_blocks" s_transaction_blocks ["number", "transaction"] a.f_transaction_blocks a.d_transaction_blocks
  transaction_at : DefT K mg "transaction_at" s_transaction_at ["journal", "place", "number", "home_count"] a.f_transaction_at a.d_transaction_at
  found_on : DefT K mg "found_on" s_found_on ["blocks"] a.f_found_on a.d_found_on
  home_writes : DefT K mg "home_writes" s_home_writes ["shape", "newest"] a.f_home_writes a.d_home_writes
  head_write : DefT K mg "head_write" s_head_write ["head"] a.f_head_write a.d_head_write
  mend_operation : DefT K mg "mend_operation" s_mend_operation ["blocks"] a.f_mend_operation a.d_mend_operation
  split_blocks : DefT K mg "split_blocks" s_split_blocks ["data"] a.f_split_blocks a.d_split_blocks
  settle_operation : DefT K mg "settle_operation" s_settle_operation ["known"] a.f_settle_operation a.d_settle_operation
  known_behind : DefT K mg "known_behind" s_known_behind ["known", "transaction"] a.f_known_behind a.d_known_behind
  commit_operation : DefT K mg "commit_operation" s_commit_operation ["known", "homes", "data"] a.f_commit_operation a.d_commit_operation
  flush_operation : DefT K mg "flush_operation" s_flush_operation ["known"] a.f_flush_operation a.d_flush_operation
  Drive_operation : MethT K a.c_Drive "operation" "Drive.operation" s_Drive_operation ["self", "kind", "homes", "data"] a.f_Drive_operation a.d_Drive_operation
  Drive_operate : MethT K a.c_Drive "operate" "Drive.operate" s_Drive_operate ["self", "kind", "homes", "data"] a.f_Drive_operate a.d_Drive_operate
  Drive_cut : MethT K a.c_Drive "cut" "Drive.cut" s_Drive_cut ["self", "row"] a.f_Drive_cut a.d_Drive_cut
  Drive_cut_in : MethT K a.c_Drive "cut_in" "Drive.cut_in" s_Drive_cut_in ["self", "after", "operation", "row"] a.f_Drive_cut_in a.d_Drive_cut_in
  Drive_arrive : MethT K a.c_Drive "arrive" "Drive.arrive" s_Drive_arrive ["self", "row"] a.f_Drive_arrive a.d_Drive_arrive
  Drive_told : MethT K a.c_Drive "told" "Drive.told" s_Drive_told ["self"] a.f_Drive_told a.d_Drive_told
  Drive_block : MethT K a.c_Drive "block" "Drive.block" s_Drive_block ["self", "b"] a.f_Drive_block a.d_Drive_block
  Drive_look : MethT K a.c_Drive "look" "Drive.look" s_Drive_look ["self"] a.f_Drive_look a.d_Drive_look
  Drive_save : MethT K a.c_Drive "save" "Drive.save" s_Drive_save ["self"] a.f_Drive_save a.d_Drive_save
  Drive_load : MethT K a.c_Drive "load" "Drive.load" s_Drive_load ["self", "data"] a.f_Drive_load a.d_Drive_load
  Drive_plan : MethT K a.c_Drive "plan" "Drive.plan" s_Drive_plan ["self", "kind", "homes", "data"] a.f_Drive_plan a.d_Drive_plan
  Reader_init : FunT K "__init__" "Reader.__init__" s_Reader_init ["self", "calls"] a.f_Reader_init a.d_Reader_init
  Reader_is_at_end : MethT K a.c_Reader "is_at_end" "Reader.is_at_end" s_Reader_is_at_end ["self"] a.f_Reader_is_at_end a.d_Reader_is_at_end
  Reader_take : MethT K a.c_Reader "take" "Reader.take" s_Reader_take ["self"] a.f_Reader_take a.d_Reader_take
  Reader_take_row : MethT K a.c_Reader "take_row" "Reader.take_row" s_Reader_take_row ["self"] a.f_Reader_take_row a.d_Reader_take_row
  call_make : DefT K mg "call_make" s_call_make ["drive", "reader"] a.f_call_make a.d_call_make
  call_read : DefT K mg "call_read" s_call_read ["drive", "reader"] a.f_call_read a.d_call_read
  call_commit : DefT K mg "call_commit" s_call_commit ["drive", "reader"] a.f_call_commit a.d_call_commit
  call_flush : DefT K mg "call_flush" s_call_flush ["drive", "reader"] a.f_call_flush a.d_call_flush
  call_settle : DefT K mg "call_settle" s_call_settle ["drive", "reader"] a.f_call_settle a.d_call_settle
  call_mend : DefT K mg "call_mend" s_call_mend ["drive", "reader"] a.f_call_mend a.d_call_mend
  call_cut : DefT K mg "call_cut" s_call_cut ["drive", "reader"] a.f_call_cut a.d_call_cut
  call_cut_in : DefT K mg "call_cut_in" s_call_cut_in ["drive", "reader"] a.f_call_cut_in a.d_call_cut_in
  call_arrive : DefT K mg "call_arrive" s_call_arrive ["drive", "reader"] a.f_call_arrive a.d_call_arrive
  call_told : DefT K mg "call_told" s_call_told ["drive", "reader"] a.f_call_told a.d_call_told
  call_block : DefT K mg "call_block" s_call_block ["drive", "reader"] a.f_call_block a.d_call_block
  call_look : DefT K mg "call_look" s_call_look ["drive", "reader"] a.f_call_look a.d_call_look
  call_save : DefT K mg "call_save" s_call_save ["drive", "reader"] a.f_call_save a.d_call_save
  call_load : DefT K mg "call_load" s_call_load ["drive", "reader"] a.f_call_load a.d_call_load
  call_plan : DefT K mg "call_plan" s_call_plan ["drive", "reader"] a.f_call_plan a.d_call_plan
  call_sum : DefT K mg "call_sum" s_call_sum ["drive", "reader"] a.f_call_sum a.d_call_sum
  answers : DefT K mg "answers" s_answers ["calls"] a.f_answers a.d_answers
  k_ALL_ONES : ∃ u, mg "ALL_ONES" = some u ∧ RelV (V.int 4294967295) u
  k_FOUR_STEPS : ∃ u, mg "FOUR_STEPS" = some u ∧ RelV (V.ref a.k_FOUR_STEPS) u
  t_FOUR_STEPS : ∀ H : Hp, SqT K H a.k_FOUR_STEPS [V.int 0, V.int 274646895, V.int 549293790, V.int 820201905, V.int 1098587580, V.int 1361435347, V.int 1640403810, V.int 1905808397, V.int 2197175160, V.int 2460548119, V.int 2722870694, V.int 2987750089, V.int 3280807620, V.int 3553878443, V.int 3811616794, V.int 4084100981]
  k_BLOCK_SIZE : ∃ u, mg "BLOCK_SIZE" = some u ∧ RelV (V.int 512) u
  k_HEAD_SUM_AT : ∃ u, mg "HEAD_SUM_AT" = some u ∧ RelV (V.int 500) u
  k_TAIL_AT : ∃ u, mg "TAIL_AT" = some u ∧ RelV (V.int 504) u
  k_ENTRIES_AT : ∃ u, mg "ENTRIES_AT" = some u ∧ RelV (V.int 24) u
  k_ENTRY_SIZE : ∃ u, mg "ENTRY_SIZE" = some u ∧ RelV (V.int 16) u
  k_MOST_HOMES : ∃ u, mg "MOST_HOMES" = some u ∧ RelV (V.int 30) u
  k_NUMBER_LIMIT : ∃ u, mg "NUMBER_LIMIT" = some u ∧ RelV (V.int 1152921504606846976) u
  k_COMMIT : ∃ u, mg "COMMIT" = some u ∧ RelV (V.int 0) u
  k_FLUSH : ∃ u, mg "FLUSH" = some u ∧ RelV (V.int 1) u
  k_SETTLE : ∃ u, mg "SETTLE" = some u ∧ RelV (V.int 2) u
  k_MEND : ∃ u, mg "MEND" = some u ∧ RelV (V.int 3) u
  k_CALLS : ∃ u, mg "CALLS" = some u ∧ RelV (V.ref a.k_CALLS) u
  t_CALLS : ∀ H : Hp, SqT K H a.k_CALLS [V.ref a.f_call_make, V.ref a.f_call_read, V.ref a.f_call_commit, V.ref a.f_call_flush, V.ref a.f_call_settle, V.ref a.f_call_mend, V.ref a.f_call_cut, V.ref a.f_call_cut_in, V.ref a.f_call_arrive, V.ref a.f_call_told, V.ref a.f_call_block, V.ref a.f_call_look, V.ref a.f_call_save, V.ref a.f_call_load, V.ref a.f_call_plan, V.ref a.f_call_sum]
  bu : ∀ x ∈ BU, mg x = none
end Dk
namespace Dk
open PySem PySem.Spec PyProof.Rows L2
/-- an instance of Shape -/
def fl_Shape (v0 v1 v2 : V) : List (Str × V) := [("block_count", v0), ("place_count", v1), ("home_count", v2)]
def O_Shape (a : Ad) (H : Hp) (p : Addr) (v0 v1 v2 : V) : Prop := ∃ dx, H p = some (.ins a.c_Shape dx (fl_Shape v0 v1 v2))
theorem O_Shape.mono {a : Ad} {H H' : Hp} {p : Addr} {v0 v1 v2 : V} (s : Same H H') (h : O_Shape a H p v0 v1 v2) : O_Shape a H' p v0 v1 v2 := h.elim fun dx e => ⟨dx, s _ _ e⟩
theorem lk_Shape_block_count {v0 v1 v2 : V} : (fl_Shape v0 v1 v2).lookup ("block_count" : Str) = some v0 := lk_here
theorem g_Shape_block_count {K : PySem.W.Frag} {mg : Str → Option Value} {a : Ad} {H : Hp} {p : Addr} {v0 v1 v2 : V} {Q : VK} (T : Tx K mg a) (h : O_Shape a H p v0 v1 v2) (q : Q v0 H) : fldv K "block_count" (V.ref p) H Q := h.elim fun dx e => ⟨p, _, dx, _, _, rfl, e, T.c_Shape.cl, T.c_Shape.na _ (by decide +kernel), lk_Shape_block_count, q⟩
theorem pt_Shape_block_count {v0 v1 v2 y : V} : putF ("block_count" : Str) y (fl_Shape v0 v1 v2) = fl_Shape y v1 v2 := put_here
theorem st_Shape_block_count {K : PySem.W.Frag} {mg : Str → Option Value} {a : Ad} {H : Hp} {p : Addr} {v0 v1 v2 y : V} {R : Hp → Prop} (T : Tx K mg a) (h : O_Shape a H p v0 v1 v2) (q : ∀ H', O_Shape a H' p y v1 v2 → Keep [p] H H' → R H') : stv K "block_count" (V.ref p) y H R := h.elim fun dx e => ⟨p, _, dx, _, rfl, e, T.c_Shape.cl, T.c_Shape.na _ (by decide +kernel), (by show 3 < 1000; decide), q _ ⟨dx, upd_same.trans (congrArg (fun z => some (HO.ins a.c_Shape dx z)) pt_Shape_block_count)⟩ keep_upd⟩
theorem lk_Shape_place_count {v0 v1 v2 : V} : (fl_Shape v0 v1 v2).lookup ("place_count" : Str) = some v1 := (lk_past (by decide +kernel)).trans (lk_here)
theorem g_Shape_place_count {K : PySem.W.Frag} {mg : Str → Option Value} {a : Ad} {H : Hp} {p : Addr} {v0 v1 v2 : V} {Q : VK} (T : Tx K mg a) (h : O_Shape a H p v0 v1 v2) (q : Q v1 H) : fldv K "place_count" (V.ref p) H Q := h.elim fun dx e => ⟨p, _, dx, _, _, rfl, e, T.c_Shape.cl, T.c_Shape.na _ (by decide +kernel), lk_Shape_place_count, q⟩
theorem pt_Shape_place_count {v0 v1 v2 y : V} : putF ("place_count" : Str) y (fl_Shape v0 v1 v2) = fl_Shape v0 y v2 := (put_past (by decide +kernel)).trans (congrArg _ (put_here))
theorem st_Shape_place_count {K : PySem.W.Frag} {mg : Str → Option Value} {a : Ad} {H : Hp} {p : Addr} {v0 v1 v2 y : V} {R : Hp → Prop} (T : Tx K mg a) (h : O_Shape a H p v0 v1 v2) (q : ∀ H', O_Shape a H' p v0 y v2 → Keep [p] H H' → R H') : stv K "place_count" (V.ref p) y H R := h.elim fun dx e => ⟨p, _, dx, _, rfl, e, T.c_Shape.cl, T.c_Shape.na _ (by decide +kernel), (by show 3 < 1000; decide), q _ ⟨dx, upd_same.trans (congrArg (fun z => some (HO.ins a.c_Shape dx z)) pt_Shape_place_count)⟩ keep_upd⟩
theorem lk_Shape_home_count {v0 v1 v2 : V} : (fl_Shape v0 v1 v2).lookup ("home_count" : Str) = some v2 := (lk_past (by decide +kernel)).trans ((lk_past (by decide +kernel)).trans (lk_here))
theorem g_Shape_home_count {K : PySem.W.Frag} {mg : Str → Option Value} {a : Ad} {H : Hp} {p : Addr} {v0 v1 v2 : V} {Q : VK} (T : Tx K mg a) (h : O_Shape a H p v0 v1 v2) (q : Q v2 H) : fldv K "home_count" (V.ref p) H Q := h.elim fun dx e => ⟨p, _, dx, _, _, rfl, e, T.c_Shape.cl, T.c_Shape.na _ (by decide +kernel), lk_Shape_home_count, q⟩
theorem pt_Shape_home_count {v0 v1 v2 y : V} : putF ("home_count" : Str) y (fl_Shape v0 v1 v2) = fl_Shape v0 v1 y := (put_past (by decide +kernel)).trans (congrArg _ ((put_past (by decide +kernel)).trans (congrArg _ (put_here))))
theorem st_Shape_home_count {K : PySem.W.Frag} {mg : Str → Option Value} {a : Ad} {H : Hp} {p : Addr} {v0 v1 v2 y : V} {R : Hp → Prop} (T : Tx K mg a) (h : O_Shape a H p v0 v1 v2) (q : ∀ H', O_Shape a H' p v0 v1 y → Keep [p] H H' → R H') : stv K "home_count" (V.ref p) y H R := h.elim fun dx e => ⟨p, _, dx, _, rfl, e, T.c_Shape.cl, T.c_Shape.na _ (by decide +kernel), (by show 3 < 1000; decide), q _ ⟨dx, upd_same.trans (congrArg (fun z => some (HO.ins a.c_Shape dx z)) pt_Shape_home_count)⟩ keep_upd⟩
theorem np_Shape_block_count {y : V} : putF ("block_count" : Str) y [] = [(("block_count" : Str), y)] := rfl
theorem ini_Shape_block_count {K : PySem.W.Frag} {mg : Str → Option Value} {a : Ad} {H : Hp} {p dx : Addr} {y : V} {R : Hp → Prop} (T : Tx K mg a) (h : H p = some (.ins a.c_Shape dx [])) (q : ∀ H', H' p = some (.ins a.c_Shape dx [(("block_count" : Str), y)]) → Keep [p] H H' → R H') : stv K "block_count" (V.ref p) y H R := ⟨p, _, dx, _, rfl, h, T.c_Shape.cl, T.c_Shape.na _ (by decide +kernel), (by show 0 < 1000; decide), q _ (upd_same.trans (congrArg (fun z => some (HO.ins a.c_Shape dx z)) np_Shape_block_count)) keep_upd⟩
theorem np_Shape_place_count {v0 y : V} : putF ("place_count" : Str) y [(("block_count" : Str), v0)] = [(("block_count" : Str), v0), (("place_count" : Str), y)] := (put_past (by decide +kernel)).trans (congrArg _ (rfl))
theorem ini_Shape_place_count {K : PySem.W.Frag} {mg : Str → Option Value} {a : Ad} {H : Hp} {p dx : Addr} {v0 y : V} {R : Hp → Prop} (T : Tx K mg a) (h : H p = some (.ins a.c_Shape dx [(("block_count" : Str), v0)])) (q : ∀ H', H' p = some (.ins a.c_Shape dx [(("block_count" : Str), v0), (("place_count" : Str), y)]) → Keep [p] H H' → R H') : stv K "place_count" (V.ref p) y H R := ⟨p, _, dx, _, rfl, h, T.c_Shape.cl, T.c_Shape.na _ (by decide +kernel), (by show 1 < 1000; decide), q _ (upd_same.trans (congrArg (fun z => some (HO.ins a.c_Shape dx z)) np_Shape_place_count)) keep_upd⟩
theorem np_Shape_home_count {v0 v1 y : V} : putF ("home_count" : Str) y [(("block_count" : Str), v0), (("place_count" : Str), v1)] = [(("block_count" : Str), v0), (("place_count" : Str), v1), (("home_count" : Str), y)] := (put_past (by decide +kernel)).trans (congrArg _ ((put_past (by decide +kernel)).trans (congrArg _ (rfl))))
theorem ini_Shape_home_count {K : PySem.W.Frag} {mg : Str → Option Value} {a : Ad} {H : Hp} {p dx : Addr} {v0 v1 y : V} {R : Hp → Prop} (T : Tx K mg a) (h : H p = some (.ins a.c_Shape dx [(("block_count" : Str), v0), (("place_count" : Str), v1)])) (q : ∀ H', H' p = some (.ins a.c_Shape dx [(("block_count" : Str), v0), (("place_count" : Str), v1), (("home_count" : Str), y)]) → Keep [p] H H' → R H') : stv K "home_count" (V.ref p) y H R := ⟨p, _, dx, _, rfl, h, T.c_Shape.cl, T.c_Shape.na _ (by decide +kernel), (by show 2 < 1000; decide), q _ (upd_same.trans (congrArg (fun z => some (HO.ins a.c_Shape dx z)) np_Shape_home_count)) keep_upd⟩
theorem no_Shape_block_of_home {v0 v1 v2 : V} : (fl_Shape v0 v1 v2).lookup ("block_of_home" : Str) = none := (lk_past (by decide +kernel)).trans ((lk_past (by decide +kernel)).trans ((lk_past (by decide +kernel)).trans (rfl)))
theorem m_Shape_block_of_home {a : Ad} {H : Hp} {p : Addr} {v0 v1 v2 : V} {t : TA} {σ : L2.St} {sp : Sp} {E : XK} {Q : VK} (h : O_Shape a H p v0 v1 v2) (q : t σ H fun vs H2 => sp (V.ref p :: (vs ++ [])) H2 Q E) : methv a.c_Shape "block_of_home" sp E t σ (V.ref p) H Q := h.elim fun dx e => ⟨p, dx, _, rfl, e, no_Shape_block_of_home, q⟩
theorem no_Shape_block_of_place {v0 v1 v2 : V} : (fl_Shape v0 v1 v2).lookup ("block_of_place" : Str) = none := (lk_past (by decide +kernel)).trans ((lk_past (by decide +kernel)).trans ((lk_past (by decide +kernel)).trans (rfl)))
theorem m_Shape_block_of_place {a : Ad} {H : Hp} {p : Addr} {v0 v1 v2 : V} {t : TA} {σ : L2.St} {sp : Sp} {E : XK} {Q : VK} (h : O_Shape a H p v0 v1 v2) (q : t σ H fun vs H2 => sp (V.ref p :: (vs ++ [])) H2 Q E) : methv a.c_Shape "block_of_place" sp E t σ (V.ref p) H Q := h.elim fun dx e => ⟨p, dx, _, rfl, e, no_Shape_block_of_place, q⟩
/-- an instance of Head -/
def fl_Head (v0 v1 v2 v3 : V) : List (Str × V) := [("generation", v0), ("shape", v1), ("number", v2), ("place", v3)]
def O_Head (a : Ad) (H : Hp) (p : Addr) (v0 v1 v2 v3 : V) : Prop := ∃ dx, H p = some (.ins a.c_Head dx (fl_Head v0 v1 v2 v3))
theorem O_Head.mono {a : Ad} {H H' : Hp} {p : Addr} {v0 v1 v2 v3 : V} (s : Same H H') (h : O_Head a H p v0 v1 v2 v3) : O_Head a H' p v0 v1 v2 v3 := h.elim fun dx e => ⟨dx, s _ _ e⟩
theorem lk_Head_generation {v0 v1 v2 v3 : V} : (fl_Head v0 v1 v2 v3).lookup ("generation" : Str) = some v0 := lk_here
theorem g_Head_generation {K : PySem.W.Frag} {mg : Str → Option Value} {a : Ad} {H : Hp} {p : Addr} {v0 v1 v2 v3 : V} {Q : VK} (T : Tx K mg a) (h : O_Head a H p v0 v1 v2 v3) (q : Q v0 H) : fldv K "generation" (V.ref p) H Q := h.elim fun dx e => ⟨p, _, dx, _, _, rfl, e, T.c_Head.cl, T.c_Head.na _ (by decide +kernel), lk_Head_generation, q⟩
theorem pt_Head_generation {v0 v1 v2 v3 y : V} : putF ("generation" : Str) y (fl_Head v0 v1 v2 v3) = fl_Head y v1 v2 v3 := put_here
theorem st_Head_generation {K : PySem.W.Frag} {mg : Str → Option Value} {a : Ad} {H : Hp} {p : Addr} {v0 v1 v2 v3 y : V} {R : Hp → Prop} (T : Tx K mg a) (h : O_Head a H p v0 v1 v2 v3) (q : ∀ H', O_Head a H' p y v1 v2 v3 → Keep [p] H H' → R H') : stv K "generation" (V.ref p) y H R := h.elim fun dx e => ⟨p, _, dx, _, rfl, e, T.c_Head.cl, T.c_Head.na _ (by decide +kernel), (by show 4 < 1000; decide), q _ ⟨dx, upd_same.trans (congrArg (fun z => some (HO.ins a.c_Head dx z)) pt_Head_generation)⟩ keep_upd⟩
theorem lk_Head_shape {v0 v1 v2 v3 : V} : (fl_Head v0 v1 v2 v3).lookup ("shape" : Str) = some v1 := (lk_past (by decide +kernel)).trans (lk_here)
theorem g_Head_shape {K : PySem.W.Frag} {mg : Str → Option Value} {a : Ad} {H : Hp} {p : Addr} {v0 v1 v2 v3 : V} {Q : VK} (T : Tx K mg a) (h : O_Head a H p v0 v1 v2 v3) (q : Q v1 H) : fldv K "shape" (V.ref p) H Q := h.elim fun dx e => ⟨p, _, dx, _, _, rfl, e, T.c_Head.cl, T.c_Head.na _ (by decide +kernel), lk_Head_shape, q⟩
theorem pt_Head_shape {v0 v1 v2 v3 y : V} : putF ("shape" : Str) y (fl_Head v0 v1 v2 v3) = fl_Head v0 y v2 v3 := (put_past (by decide +kernel)).trans (congrArg _ (put_here))
theorem st_Head_shape {K : PySem.W.Frag} {mg : Str → Option Value} {a : Ad} {H : Hp} {p : Addr} {v0 v1 v2 v3 y : V} {R : Hp → Prop} (T : Tx K mg a) (h : O_Head a H p v0 v1 v2 v3) (q : ∀ H', O_Head a H' p v0 y v2 v3 → Keep [p] H H' → R H') : stv K "shape" (V.ref p) y H R := h.elim fun dx e => ⟨p, _, dx, _, rfl, e, T.c_Head.cl, T.c_Head.na _ (by decide +kernel), (by show 4 < 1000; decide), q _ ⟨dx, upd_same.trans (congrArg (fun z => some (HO.ins a.c_Head dx z)) pt_Head_shape)⟩ keep_upd⟩
theorem lk_Head_number {v0 v1 v2 v3 : V} : (fl_Head v0 v1 v2 v3).lookup ("number" : Str) = some v2 := (lk_past (by decide +kernel)).trans ((lk_past (by decide +kernel)).trans (lk_here))
theorem g_Head_number {K : PySem.W.Frag} {mg : Str → Option Value} {a : Ad} {H : Hp} {p : Addr} {v0 v1 v2 v3 : V} {Q : VK} (T : Tx K mg a) (h : O_Head a H p v0 v1 v2 v3) (q : Q v2 H) : fldv K "number" (V.ref p) H Q := h.elim fun dx e => ⟨p, _, dx, _, _, rfl, e, T.c_Head.cl, T.c_Head.na _ (by decide +kernel), lk_Head_number, q⟩
theorem pt_Head_number {v0 v1 v2 v3 y : V} : putF ("number" : Str) y (fl_Head v0 v1 v2 v3) = fl_Head v0 v1 y v3 := (put_past (by decide +kernel)).trans (congrArg _ ((put_past (by decide +kernel)).trans (congrArg _ (put_here))))
theorem st_Head_number {K : PySem.W.Frag} {mg : Str → Option Value} {a : Ad} {H : Hp} {p : Addr} {v0 v1 v2 v3 y : V} {R : Hp → Prop} (T : Tx K mg a) (h : O_Head a H p v0 v1 v2 v3) (q : ∀ H', O_Head a H' p v0 v1 y v3 → Keep [p] H H' → R H') : stv K "number" (V.ref p) y H R := h.elim fun dx e => ⟨p, _, dx, _, rfl, e, T.c_Head.cl, T.c_Head.na _ (by decide +kernel), (by show 4 < 1000; decide), q _ ⟨dx, upd_same.trans (congrArg (fun z => some (HO.ins a.c_Head dx z)) pt_Head_number)⟩ keep_upd⟩
theorem lk_Head_place {v0 v1 v2 v3 : V} : (fl_Head v0 v1 v2 v3).lookup ("place" : Str) = some v3 := (lk_past (by decide +kernel)).trans ((lk_past (by decide +kernel)).trans ((lk_past (by decide +kernel)).trans (lk_here)))
theorem g_Head_place {K : PySem.W.Frag} {mg : Str → Option Value} {a : Ad} {H : Hp} {p : Addr} {v0 v1 v2 v3 : V} {Q : VK} (T : Tx K mg a) (h : O_Head a H p v0 v1 v2 v3) (q : Q v3 H) : fldv K "place" (V.ref p) H Q := h.elim fun dx e => ⟨p, _, dx, _, _, rfl, e, T.c_Head.cl, T.c_Head.na _ (by decide +kernel), lk_Head_place, q⟩
theorem pt_Head_place {v0 v1 v2 v3 y : V} : putF ("place" : Str) y (fl_Head v0 v1 v2 v3) = fl_Head v0 v1 v2 y := (put_past (by decide +kernel)).trans (congrArg _ ((put_past (by decide +kernel)).trans (congrArg _ ((put_past (by decide +kernel)).trans (congrArg _ (put_here))))))
theorem st_Head_place {K : PySem.W.Frag} {mg : Str → Option Value} {a : Ad} {H : Hp} {p : Addr} {v0 v1 v2 v3 y : V} {R : Hp → Prop} (T : Tx K mg a) (h : O_Head a H p v0 v1 v2 v3) (q : ∀ H', O_Head a H' p v0 v1 v2 y → Keep [p] H H' → R H') : stv K "place" (V.ref p) y H R := h.elim fun dx e => ⟨p, _, dx, _, rfl, e, T.c_Head.cl, T.c_Head.na _ (by decide +kernel), (by show 4 < 1000; decide), q _ ⟨dx, upd_same.trans (congrArg (fun z => some (HO.ins a.c_Head dx z)) pt_Head_place)⟩ keep_upd⟩
theorem np_Head_generation {y : V} : putF ("generation" : Str) y [] = [(("generation" : Str), y)] := rfl
theorem ini_Head_generation {K : PySem.W.Frag} {mg : Str → Option Value} {a : Ad} {H : Hp} {p dx : Addr} {y : V} {R : Hp → Prop} (T : Tx K mg a) (h : H p = some (.ins a.c_Head dx [])) (q : ∀ H', H' p = some (.ins a.c_Head dx [(("generation" : Str), y)]) → Keep [p] H H' → R H') : stv K "generation" (V.ref p) y H R := ⟨p, _, dx, _, rfl, h, T.c_Head.cl, T.c_Head.na _ (by decide +kernel), (by show 0 < 1000; decide), q _ (upd_same.trans (congrArg (fun z => some (HO.ins a.c_Head dx z)) np_Head_generation)) keep_upd⟩
theorem np_Head_shape {v0 y : V} : putF ("shape" : Str) y [(("generation" : Str), v0)] = [(("generation" : Str), v0), (("shape" : Str), y)] := (put_past (by decide +kernel)).trans (congrArg _ (rfl))
theorem ini_Head_shape {K : PySem.W.Frag} {mg : Str → Option Value} {a : Ad} {H : Hp} {p dx : Addr} {v0 y : V} {R : Hp → Prop} (T : Tx K mg a) (h : H p = some (.ins a.c_Head dx [(("generation" : Str), v0)])) (q : ∀ H', H' p = some (.ins a.c_Head dx [(("generation" : Str), v0), (("shape" : Str), y)]) → Keep [p] H H' → R H') : stv K "shape" (V.ref p) y H R := ⟨p, _, dx, _, rfl, h, T.c_Head.cl, T.c_Head.na _ (by decide +kernel), (by show 1 < 1000; decide), q _ (upd_same.trans (congrArg (fun z => some (HO.ins a.c_Head dx z)) np_Head_shape)) keep_upd⟩
theorem np_Head_number {v0 v1 y : V} : putF ("number" : Str) y [(("generation" : Str), v0), (("shape" : Str), v1)] = [(("generation" : Str), v0), (("shape" : Str), v1), (("number" : Str), y)] := (put_past (by decide +kernel)).trans (congrArg _ ((put_past (by decide +kernel)).trans (congrArg _ (rfl))))
theorem ini_Head_number {K : PySem.W.Frag} {mg : Str → Option Value} {a : Ad} {H : Hp} {p dx : Addr} {v0 v1 y : V} {R : Hp → Prop} (T : Tx K mg a) (h : H p = some (.ins a.c_Head dx [(("generation" : Str), v0), (("shape" : Str), v1)])) (q : ∀ H', H' p = some (.ins a.c_Head dx [(("generation" : Str), v0), (("shape" : Str), v1), (("number" : Str), y)]) → Keep [p] H H' → R H') : stv K "number" (V.ref p) y H R := ⟨p, _, dx, _, rfl, h, T.c_Head.cl, T.c_Head.na _ (by decide +kernel), (by show 2 < 1000; decide), q _ (upd_same.trans (congrArg (fun z => some (HO.ins a.c_Head dx z)) np_Head_number)) keep_upd⟩
theorem np_Head_place {v0 v1 v2 y : V} : putF ("place" : Str) y [(("generation" : Str), v0), (("shape" : Str), v1), (("number" : Str), v2)] = [(("generation" : Str), v0), (("shape" : Str), v1), (("number" : Str), v2), (("place" : Str), y)] := (put_past (by decide +kernel)).trans (congrArg _ ((put_past (by decide +kernel)).trans (congrArg _ ((put_past (by decide +kernel)).trans (congrArg _ (rfl))))))
theorem ini_Head_place {K : PySem.W.Frag} {mg : Str → Option Value} {a : Ad} {H : Hp} {p dx : Addr} {v0 v1 v2 y : V} {R : Hp → Prop} (T : Tx K mg a) (h : H p = some (.ins a.c_Head dx [(("generation" : Str), v0), (("shape" : Str), v1), (("number" : Str), v2)])) (q : ∀ H', H' p = some (.ins a.c_Head dx [(("generation" : Str), v0), (("shape" : Str), v1), (("number" : Str), v2), (("place" : Str), y)]) → Keep [p] H H' → R H') : stv K "place" (V.ref p) y H R := ⟨p, _, dx, _, rfl, h, T.c_Head.cl, T.c_Head.na _ (by decide +kernel), (by show 3 < 1000; decide), q _ (upd_same.trans (congrArg (fun z => some (HO.ins a.c_Head dx z)) np_Head_place)) keep_upd⟩
/-- an instance of Transaction -/
def fl_Transaction (v0 v1 : V) : List (Str × V) := [("homes", v0), ("blocks", v1)]
def O_Transaction (a : Ad) (H : Hp) (p : Addr) (v0 v1 : V) : Prop := ∃ dx, H p = some (.ins a.c_Transaction dx (fl_Transaction v0 v1))
theorem O_Transaction.mono {a : Ad} {H H' : Hp} {p : Addr} {v0 v1 : V} (s : Same H H') (h : O_Transaction a H p v0 v1) : O_Transaction a H' p v0 v1 := h.elim fun dx e => ⟨dx, s _ _ e⟩
theorem lk_Transaction_homes {v0 v1 : V} : (fl_Transaction v0 v1).lookup ("homes" : Str) = some v0 := lk_here
theorem g_Transaction_homes {K : PySem.W.Frag} {mg : Str → Option Value} {a : Ad} {H : Hp} {p : Addr} {v0 v1 : V} {Q : VK} (T : Tx K mg a) (h : O_Transaction a H p v0 v1) (q : Q v0 H) : fldv K "homes" (V.ref p) H Q := h.elim fun dx e => ⟨p, _, dx, _, _, rfl, e, T.c_Transaction.cl, T.c_Transaction.na _ (by decide +kernel), lk_Transaction_homes, q⟩
theorem pt_Transaction_homes {v0 v1 y : V} : putF ("homes" : Str) y (fl_Transaction v0 v1) = fl_Transaction y v1 := put_here
theorem st_Transaction_homes {K : PySem.W.Frag} {mg : Str → Option Value} {a : Ad} {H : Hp} {p : Addr} {v0 v1 y : V} {R : Hp → Prop} (T : Tx K mg a) (h : O_Transaction a H p v0 v1) (q : ∀ H', O_Transaction a H' p y v1 → Keep [p] H H' → R H') : stv K "homes" (V.ref p) y H R := h.elim fun dx e => ⟨p, _, dx, _, rfl, e, T.c_Transaction.cl, T.c_Transaction.na _ (by decide +kernel), (by show 2 < 1000; decide), q _ ⟨dx, upd_same.trans (congrArg (fun z => some (HO.ins a.c_Transaction dx z)) pt_Transaction_homes)⟩ keep_upd⟩
theorem lk_Transaction_blocks {v0 v1 : V} : (fl_Transaction v0 v1).lookup ("blocks" : Str) = some v1 := (lk_past (by decide +kernel)).trans (lk_here)
theorem g_Transaction_blocks {K : PySem.W.Frag} {mg : Str → Option Value} {a : Ad} {H : Hp} {p : Addr} {v0 v1 : V} {Q : VK} (T : Tx K mg a) (h : O_Transaction a H p v0 v1) (q : Q v1 H) : fldv K "blocks" (V.ref p) H Q := h.elim fun dx e => ⟨p, _, dx, _, _, rfl, e, T.c_Transaction.cl, T.c_Transaction.na _ (by decide +kernel), lk_Transaction_blocks, q⟩
theorem pt_Transaction_blocks {v0 v1 y : V} : putF ("blocks" : Str) y (fl_Transaction v0 v1) = fl_Transaction v0 y := (put_past (by decide +kernel)).trans (congrArg _ (put_here))
theorem st_Transaction_blocks {K : PySem.W.Frag} {mg : Str → Option Value} {a : Ad} {H : Hp} {p : Addr} {v0 v1 y : V} {R : Hp → Prop} (T : Tx K mg a) (h : O_Transaction a H p v0 v1) (q : ∀ H', O_Transaction a H' p v0 y → Keep [p] H H' → R H') : stv K "blocks" (V.ref p) y H R := h.elim fun dx e => ⟨p, _, dx, _, rfl, e, T.c_Transaction.cl, T.c_Transaction.na _ (by decide +kernel), (by show 2 < 1000; decide), q _ ⟨dx, upd_same.trans (congrArg (fun z => some (HO.ins a.c_Transaction dx z)) pt_Transaction_blocks)⟩ keep_upd⟩
theorem np_Transaction_homes {y : V} : putF ("homes" : Str) y [] = [(("homes" : Str), y)] := rfl
theorem ini_Transaction_homes {K : PySem.W.Frag} {mg : Str → Option Value} {a : Ad} {H : Hp} {p dx : Addr} {y : V} {R : Hp → Prop} (T : Tx K mg a) (h : H p = some (.ins a.c_Transaction dx [])) (q : ∀ H', H' p = some (.ins a.c_Transaction dx [(("homes" : Str), y)]) → Keep [p] H H' → R H') : stv K "homes" (V.ref p) y H R := ⟨p, _, dx, _, rfl, h, T.c_Transaction.cl, T.c_Transaction.na _ (by decide +kernel), (by show 0 < 1000; decide), q _ (upd_same.trans (congrArg (fun z => some (HO.ins a.c_Transaction dx z)) np_Transaction_homes)) keep_upd⟩
theorem np_Transaction_blocks {v0 y : V} : putF ("blocks" : Str) y [(("homes" : Str), v0)] = [(("homes" : Str), v0), (("blocks" : Str), y)] := (put_past (by decide +kernel)).trans (congrArg _ (rfl))
theorem ini_Transaction_blocks {K : PySem.W.Frag} {mg : Str → Option Value} {a : Ad} {H : Hp} {p dx : Addr} {v0 y : V} {R : Hp → Prop} (T : Tx K mg a) (h : H p = some (.ins a.c_Transaction dx [(("homes" : Str), v0)])) (q : ∀ H', H' p = some (.ins a.c_Transaction dx [(("homes" : Str), v0), (("blocks" : Str), y)]) → Keep [p] H H' → R H') : stv K "blocks" (V.ref p) y H R := ⟨p, _, dx, _, rfl, h, T.c_Transaction.cl, T.c_Transaction.na _ (by decide +kernel), (by show 1 < 1000; decide), q _ (upd_same.trans (congrArg (fun z => some (HO.ins a.c_Transaction dx z)) np_Transaction_blocks)) keep_upd⟩
/-- an instance of Found -/
def fl_Found (v0 v1 v2 : V) : List (Str × V) := [("head", v0), ("transactions", v1), ("place", v2)]
def O_Found (a : Ad) (H : Hp) (p : Addr) (v0 v1 v2 : V) : Prop := ∃ dx, H p = some (.ins a.c_Found dx (fl_Found v0 v1 v2))
theorem O_Found.mono {a : Ad} {H H' : Hp} {p : Addr} {v0 v1 v2 : V} (s : Same H H') (h : O_Found a H p v0 v1 v2) : O_Found a H' p v0 v1 v2 := h.elim fun dx e => ⟨dx, s _ _ e⟩
theorem lk_Found_head {v0 v1 v2 : V} : (fl_Found v0 v1 v2).lookup ("head" : Str) = some v0 := lk_here
theorem g_Found_head {K : PySem.W.Frag} {mg : Str → Option Value} {a : Ad} {H : Hp} {p : Addr} {v0 v1 v2 : V} {Q : VK} (T : Tx K mg a) (h : O_Found a H p v0 v1 v2) (q : Q v0 H) : fldv K "head" (V.ref p) H Q := h.elim fun dx e => ⟨p, _, dx, _, _, rfl, e, T.c_Found.cl, T.c_Found.na _ (by decide +kernel), lk_Found_head, q⟩
theorem pt_Found_head {v0 v1 v2 y : V} : putF ("head" : Str) y (fl_Found v0 v1 v2) = fl_Found y v1 v2 := put_here
theorem st_Found_head {K : PySem.W.Frag} {mg : Str → Option Value} {a : Ad} {H : Hp} {p : Addr} {v0 v1 v2 y : V} {R : Hp → Prop} (T : Tx K mg a) (h : O_Found a H p v0 v1 v2) (q : ∀ H', O_Found a H' p y v1 v2 → Keep [p] H H' → R H') : stv K "head" (V.ref p) y H R := h.elim fun dx e => ⟨p, _, dx, _, rfl, e, T.c_Found.cl, T.c_Found.na _ (by decide +kernel), (by show 3 < 1000; decide), q _ ⟨dx, upd_same.trans (congrArg (fun z => some (HO.ins a.c_Found dx z)) pt_Found_head)⟩ keep_upd⟩
theorem lk_Found_transactions {v0 v1 v2 : V} : (fl_Found v0 v1 v2).lookup ("transactions" : Str) = some v1 := (lk_past (by decide +kernel)).trans (lk_here)
theorem g_Found_transactions {K : PySem.W.Frag} {mg : Str → Option Value} {a : Ad} {H : Hp} {p : Addr} {v0 v1 v2 : V} {Q : VK} (T : Tx K mg a) (h : O_Found a H p v0 v1 v2) (q : Q v1 H) : fldv K "transactions" (V.ref p) H Q := h.elim fun dx e => ⟨p, _, dx, _, _, rfl, e, T.c_Found.cl, T.c_Found.na _ (by decide +kernel), lk_Found_transactions, q⟩
theorem pt_Found_transactions {v0 v1 v2 y : V} : putF ("transactions" : Str) y (fl_Found v0 v1 v2) = fl_Found v0 y v2 := (put_past (by decide +kernel)).trans (congrArg _ (put_here))
theorem st_Found_transactions {K : PySem.W.Frag} {mg : Str → Option Value} {a : Ad} {H : Hp} {p : Addr} {v0 v1 v2 y : V} {R : Hp → Prop} (T : Tx K mg a) (h : O_Found a H p v0 v1 v2) (q : ∀ H', O_Found a H' p v0 y v2 → Keep [p] H H' → R H') : stv K "transactions" (V.ref p) y H R := h.elim fun dx e => ⟨p, _, dx, _, rfl, e, T.c_Found.cl, T.c_Found.na _ (by decide +kernel), (by show 3 < 1000; decide), q _ ⟨dx, upd_same.trans (congrArg (fun z => some (HO.ins a.c_Found dx z)) pt_Found_transactions)⟩ keep_upd⟩
theorem lk_Found_place {v0 v1 v2 : V} : (fl_Found v0 v1 v2).lookup ("place" : Str) = some v2 := (lk_past (by decide +kernel)).trans ((lk_past (by decide +kernel)).trans (lk_here))
theorem g_Found_place {K : PySem.W.Frag} {mg : Str → Option Value} {a : Ad} {H : Hp} {p : Addr} {v0 v1 v2 : V} {Q : VK} (T : Tx K mg a) (h : O_Found a H p v0 v1 v2) (q : Q v2 H) : fldv K "place" (V.ref p) H Q := h.elim fun dx e => ⟨p, _, dx, _, _, rfl, e, T.c_Found.cl, T.c_Found.na _ (by decide +kernel), lk_Found_place, q⟩
theorem pt_Found_place {v0 v1 v2 y : V} : putF ("place" : Str) y (fl_Found v0 v1 v2) = fl_Found v0 v1 y := (put_past (by decide +kernel)).trans (congrArg _ ((put_past (by decide +kernel)).trans (congrArg _ (put_here))))
theorem st_Found_place {K : PySem.W.Frag} {mg : Str → Option Value} {a : Ad} {H : Hp} {p : Addr} {v0 v1 v2 y : V} {R : Hp → Prop} (T : Tx K mg a) (h : O_Found a H p v0 v1 v2) (q : ∀ H', O_Found a H' p v0 v1 y → Keep [p] H H' → R H') : stv K "place" (V.ref p) y H R := h.elim fun dx e => ⟨p, _, dx, _, rfl, e, T.c_Found.cl, T.c_Found.na _ (by decide +kernel), (by show 3 < 1000; decide), q _ ⟨dx, upd_same.trans (congrArg (fun z => some (HO.ins a.c_Found dx z)) pt_Found_place)⟩ keep_upd⟩
theorem np_Found_head {y : V} : putF ("head" : Str) y [] = [(("head" : Str), y)] := rfl
theorem ini_Found_head {K : PySem.W.Frag} {mg : Str → Option Value} {a : Ad} {H : Hp} {p dx : Addr} {y : V} {R : Hp → Prop} (T : Tx K mg a) (h : H p = some (.ins a.c_Found dx [])) (q : ∀ H', H' p = some (.ins a.c_Found dx [(("head" : Str), y)]) → Keep [p] H H' → R H') : stv K "head" (V.ref p) y H R := ⟨p, _, dx, _, rfl, h, T.c_Found.cl, T.c_Found.na _ (by decide +kernel), (by show 0 < 1000; decide), q _ (upd_same.trans (congrArg (fun z => some (HO.ins a.c_Found dx z)) np_Found_head)) keep_upd⟩
theorem np_Found_transactions {v0 y : V} : putF ("transactions" : Str) y [(("head" : Str), v0)] = [(("head" : Str), v0), (("transactions" : Str), y)] := (put_past (by decide +kernel)).trans (congrArg _ (rfl))
theorem ini_Found_transactions {K : PySem.W.Frag} {mg : Str → Option Value} {a : Ad} {H : Hp} {p dx : Addr} {v0 y : V} {R : Hp → Prop} (T : Tx K mg a) (h : H p = some (.ins a.c_Found dx [(("head" : Str), v0)])) (q : ∀ H', H' p = some (.ins a.c_Found dx [(("head" : Str), v0), (("transactions" : Str), y)]) → Keep [p] H H' → R H') : stv K "transactions" (V.ref p) y H R := ⟨p, _, dx, _, rfl, h, T.c_Found.cl, T.c_Found.na _ (by decide +kernel), (by show 1 < 1000; decide), q _ (upd_same.trans (congrArg (fun z => some (HO.ins a.c_Found dx z)) np_Found_transactions)) keep_upd⟩
theorem np_Found_place {v0 v1 y : V} : putF ("place" : Str) y [(("head" : Str), v0), (("transactions" : Str), v1)] = [(("head" : Str), v0), (("transactions" : Str), v1), (("place" : Str), y)] := (put_past (by decide +kernel)).trans (congrArg _ ((put_past (by decide +kernel)).trans (congrArg _ (rfl))))
theorem ini_Found_place {K : PySem.W.Frag} {mg : Str → Option Value} {a : Ad} {H : Hp} {p dx : Addr} {v0 v1 y : V} {R : Hp → Prop} (T : Tx K mg a) (h : H p = some (.ins a.c_Found dx [(("head" : Str), v0), (("transactions" : Str), v1)])) (q : ∀ H', H' p = some (.ins a.c_Found dx [(("head" : Str), v0), (("transactions" : Str), v1), (("place" : Str), y)]) → Keep [p] H H' → R H') : stv K "place" (V.ref p) y H R := ⟨p, _, dx, _, rfl, h, T.c_Found.cl, T.c_Found.na _ (by decide +kernel), (by show 2 < 1000; decide), q _ (upd_same.trans (congrArg (fun z => some (HO.ins a.c_Found dx z)) np_Found_place)) keep_upd⟩
/-- an instance of Medium -/
def fl_Medium (v0 v1 : V) : List (Str × V) := [("blocks", v0), ("on_way", v1)]
def O_Medium (a : Ad) (H : Hp) (p : Addr) (v0 v1 : V) : Prop := ∃ dx, H p = some (.ins a.c_Medium dx (fl_Medium v0 v1))
theorem O_Medium.mono {a : Ad} {H H' : Hp} {p : Addr} {v0 v1 : V} (s : Same H H') (h : O_Medium a H p v0 v1) : O_Medium a H' p v0 v1 := h.elim fun dx e => ⟨dx, s _ _ e⟩
theorem lk_Medium_blocks {v0 v1 : V} : (fl_Medium v0 v1).lookup ("blocks" : Str) = some v0 := lk_here
theorem g_Medium_blocks {K : PySem.W.Frag} {mg : Str → Option Value} {a : Ad} {H : Hp} {p : Addr} {v0 v1 : V} {Q : VK} (T : Tx K mg a) (h : O_Medium a H p v0 v1) (q : Q v0 H) : fldv K "blocks" (V.ref p) H Q := h.elim fun dx e => ⟨p, _, dx, _, _, rfl, e, T.c_Medium.cl, T.c_Medium.na _ (by decide +kernel), lk_Medium_blocks, q⟩
theorem pt_Medium_blocks {v0 v1 y : V} : putF ("blocks" : Str) y (fl_Medium v0 v1) = fl_Medium y v1 := put_here
theorem st_Medium_blocks {K : PySem.W.Frag} {mg : Str → Option Value} {a : Ad} {H : Hp} {p : Addr} {v0 v1 y : V} {R : Hp → Prop} (T : Tx K mg a) (h : O_Medium a H p v0 v1) (q : ∀ H', O_Medium a H' p y v1 → Keep [p] H H' → R H') : stv K "blocks" (V.ref p) y H R := h.elim fun dx e => ⟨p, _, dx, _, rfl, e, T.c_Medium.cl, T.c_Medium.na _ (by decide +kernel), (by show 2 < 1000; decide), q _ ⟨dx, upd_same.trans (congrArg (fun z => some (HO.ins a.c_Medium dx z)) pt_Medium_blocks)⟩ keep_upd⟩
theorem lk_Medium_on_way {v0 v1 : V} : (fl_Medium v0 v1).lookup ("on_way" : Str) = some v1 := (lk_past (by decide +kernel)).trans (lk_here)
theorem g_Medium_on_way {K : PySem.W.Frag} {mg : Str → Option Value} {a : Ad} {H : Hp} {p : Addr} {v0 v1 : V} {Q : VK} (T : Tx K mg a) (h : O_Medium a H p v0 v1) (q : Q v1 H) : fldv K "on_way" (V.ref p) H Q := h.elim fun dx e => ⟨p, _, dx, _, _, rfl, e, T.c_Medium.cl, T.c_Medium.na _ (by decide +kernel), lk_Medium_on_way, q⟩
theorem pt_Medium_on_way {v0 v1 y : V} : putF ("on_way" : Str) y (fl_Medium v0 v1) = fl_Medium v0 y := (put_past (by decide +kernel)).trans (congrArg _ (put_here))
theorem st_Medium_on_way {K : PySem.W.Frag} {mg : Str → Option Value} {a : Ad} {H : Hp} {p : Addr} {v0 v1 y : V} {R : Hp → Prop} (T : Tx K mg a) (h : O_Medium a H p v0 v1) (q : ∀ H', O_Medium a H' p v0 y → Keep [p] H H' → R H') : stv K "on_way" (V.ref p) y H R := h.elim fun dx e => ⟨p, _, dx, _, rfl, e, T.c_Medium.cl, T.c_Medium.na _ (by decide +kernel), (by show 2 < 1000; decide), q _ ⟨dx, upd_same.trans (congrArg (fun z => some (HO.ins a.c_Medium dx z)) pt_Medium_on_way)⟩ keep_upd⟩
theorem np_Medium_blocks {y : V} : putF ("blocks" : Str) y [] = [(("blocks" : Str), y)] := rfl
theorem ini_Medium_blocks {K : PySem.W.Frag} {mg : Str → Option Value} {a : Ad} {H : Hp} {p dx : Addr} {y : V} {R : Hp → Prop} (T : Tx K mg a) (h : H p = some (.ins a.c_Medium dx [])) (q : ∀ H', H' p = some (.ins a.c_Medium dx [(("blocks" : Str), y)]) → Keep [p] H H' → R H') : stv K "blocks" (V.ref p) y H R := ⟨p, _, dx, _, rfl, h, T.c_Medium.cl, T.c_Medium.na _ (by decide +kernel), (by show 0 < 1000; decide), q _ (upd_same.trans (congrArg (fun z => some (HO.ins a.c_Medium dx z)) np_Medium_blocks)) keep_upd⟩
theorem np_Medium_on_way {v0 y : V} : putF ("on_way" : Str) y [(("blocks" : Str), v0)] = [(("blocks" : Str), v0), (("on_way" : Str), y)] := (put_past (by decide +kernel)).trans (congrArg _ (rfl))
theorem ini_Medium_on_way {K : PySem.W.Frag} {mg : Str → Option Value} {a : Ad} {H : Hp} {p dx : Addr} {v0 y : V} {R : Hp → Prop} (T : Tx K mg a) (h : H p = some (.ins a.c_Medium dx [(("blocks" : Str), v0)])) (q : ∀ H', H' p = some (.ins a.c_Medium dx [(("blocks" : Str), v0), (("on_way" : Str), y)]) → Keep [p] H H' → R H') : stv K "on_way" (V.ref p) y H R := ⟨p, _, dx, _, rfl, h, T.c_Medium.cl, T.c_Medium.na _ (by decide +kernel), (by show 1 < 1000; decide), q _ (upd_same.trans (congrArg (fun z => some (HO.ins a.c_Medium dx z)) np_Medium_on_way)) keep_upd⟩
theorem no_Medium_act {v0 v1 : V} : (fl_Medium v0 v1).lookup ("act" : Str) = none := (lk_past (by decide +kernel)).trans ((lk_past (by decide +kernel)).trans (rfl))
theorem m_Medium_act {a : Ad} {H : Hp} {p : Addr} {v0 v1 : V} {t : TA} {σ : L2.St} {sp : Sp} {E : XK} {Q : VK} (h : O_Medium a H p v0 v1) (q : t σ H fun vs H2 => sp (V.ref p :: (vs ++ [])) H2 Q E) : methv a.c_Medium "act" sp E t σ (V.ref p) H Q := h.elim fun dx e => ⟨p, dx, _, rfl, e, no_Medium_act, q⟩
theorem no_Medium_wait {v0 v1 : V} : (fl_Medium v0 v1).lookup ("wait" : Str) = none := (lk_past (by decide +kernel)).trans ((lk_past (by decide +kernel)).trans (rfl))
theorem m_Medium_wait {a : Ad} {H : Hp} {p : Addr} {v0 v1 : V} {t : TA} {σ : L2.St} {sp : Sp} {E : XK} {Q : VK} (h : O_Medium a H p v0 v1) (q : t σ H fun vs H2 => sp (V.ref p :: (vs ++ [])) H2 Q E) : methv a.c_Medium "wait" sp E t σ (V.ref p) H Q := h.elim fun dx e => ⟨p, dx, _, rfl, e, no_Medium_wait, q⟩
theorem no_Medium_arrive {v0 v1 : V} : (fl_Medium v0 v1).lookup ("arrive" : Str) = none := (lk_past (by decide +kernel)).trans ((lk_past (by decide +kernel)).trans (rfl))
theorem m_Medium_arrive {a : Ad} {H : Hp} {p : Addr} {v0 v1 : V} {t : TA} {σ : L2.St} {sp : Sp} {E : XK} {Q : VK} (h : O_Medium a H p v0 v1) (q : t σ H fun vs H2 => sp (V.ref p :: (vs ++ [])) H2 Q E) : methv a.c_Medium "arrive" sp E t σ (V.ref p) H Q := h.elim fun dx e => ⟨p, dx, _, rfl, e, no_Medium_arrive, q⟩
theorem no_Medium_put_first_bytes {v0 v1 : V} : (fl_Medium v0 v1).lookup ("put_first_bytes" : Str) = none := (lk_past (by decide +kernel)).trans ((lk_past (by decide +kernel)).trans (rfl))
theorem m_Medium_put_first_bytes {a : Ad} {H : Hp} {p : Addr} {v0 v1 : V} {t : TA} {σ : L2.St} {sp : Sp} {E : XK} {Q : VK} (h : O_Medium a H p v0 v1) (q : t σ H fun vs H2 => sp (V.ref p :: (vs ++ [])) H2 Q E) : methv a.c_Medium "put_first_bytes" sp E t σ (V.ref p) H Q := h.elim fun dx e => ⟨p, dx, _, rfl, e, no_Medium_put_first_bytes, q⟩
theorem no_Medium_lose {v0 v1 : V} : (fl_Medium v0 v1).lookup ("lose" : Str) = none := (lk_past (by decide +kernel)).trans ((lk_past (by decide +kernel)).trans (rfl))
theorem m_Medium_lose {a : Ad} {H : Hp} {p : Addr} {v0 v1 : V} {t : TA} {σ : L2.St} {sp : Sp} {E : XK} {Q : VK} (h : O_Medium a H p v0 v1) (q : t σ H fun vs H2 => sp (V.ref p :: (vs ++ [])) H2 Q E) : methv a.c_Medium "lose" sp E t σ (V.ref p) H Q := h.elim fun dx e => ⟨p, dx, _, rfl, e, no_Medium_lose, q⟩
/-- an instance of Known -/
def fl_Known (v0 v1 v2 v3 v4 : V) : List (Str × V) := [("head", v0), ("number", v1), ("place", v2), ("taken", v3), ("newest", v4)]
def O_Known (a : Ad) (H : Hp) (p : Addr) (v0 v1 v2 v3 v4 : V) : Prop := ∃ dx, H p = some (.ins a.c_Known dx (fl_Known v0 v1 v2 v3 v4))
theorem O_Known.mono {a : Ad} {H H' : Hp} {p : Addr} {v0 v1 v2 v3 v4 : V} (s : Same H H') (h : O_Known a H p v0 v1 v2 v3 v4) : O_Known a H' p v0 v1 v2 v3 v4 := h.elim fun dx e => ⟨dx, s _ _ e⟩
theorem lk_Known_head {v0 v1 v2 v3 v4 : V} : (fl_Known v0 v1 v2 v3 v4).lookup ("head" : Str) = some v0 := lk_here
theorem g_Known_head {K : PySem.W.Frag} {mg : Str → Option Value} {a : Ad} {H : Hp} {p : Addr} {v0 v1 v2 v3 v4 : V} {Q : VK} (T : Tx K mg a) (h : O_Known a H p v0 v1 v2 v3 v4) (q : Q v0 H) : fldv K "head" (V.ref p) H Q := h.elim fun dx e => ⟨p, _, dx, _, _, rfl, e, T.c_Known.cl, T.c_Known.na _ (by decide +kernel), lk_Known_head, q⟩
theorem pt_Known_head {v0 v1 v2 v3 v4 y : V} : putF ("head" : Str) y (fl_Known v0 v1 v2 v3 v4) = fl_Known y v1 v2 v3 v4 := put_here
theorem st_Known_head {K : PySem.W.Frag} {mg : Str → Option Value} {a : Ad} {H : Hp} {p : Addr} {v0 v1 v2 v3 v4 y : V} {R : Hp → Prop} (T : Tx K mg a) (h : O_Known a H p v0 v1 v2 v3 v4) (q : ∀ H', O_Known a H' p y v1 v2 v3 v4 → Keep [p] H H' → R H') : stv K "head" (V.ref p) y H R := h.elim fun dx e => ⟨p, _, dx, _, rfl, e, T.c_Known.cl, T.c_Known.na _ (by decide +kernel), (by show 5 < 1000; decide), q _ ⟨dx, upd_same.trans (congrArg (fun z => some (HO.ins a.c_Known dx z)) pt_Known_head)⟩ keep_upd⟩
theorem lk_Known_number {v0 v1 v2 v3 v4 : V} : (fl_Known v0 v1 v2 v3 v4).lookup ("number" : Str) = some v1 := (lk_past (by decide +kernel)).trans (lk_here)
theorem g_Known_number {K : PySem.W.Frag} {mg : Str → Option Value} {a : Ad} {H : Hp} {p : Addr} {v0 v1 v2 v3 v4 : V} {Q : VK} (T : Tx K mg a) (h : O_Known a H p v0 v1 v2 v3 v4) (q : Q v1 H) : fldv K "number" (V.ref p) H Q := h.elim fun dx e => ⟨p, _, dx, _, _, rfl, e, T.c_Known.cl, T.c_Known.na _ (by decide +kernel), lk_Known_number, q⟩
theorem pt_Known_number {v0 v1 v2 v3 v4 y : V} : putF ("number" : Str) y (fl_Known v0 v1 v2 v3 v4) = fl_Known v0 y v2 v3 v4 := (put_past (by decide +kernel)).trans (congrArg _ (put_here))
theorem st_Known_number {K : PySem.W.Frag} {mg : Str → Option Value} {a : Ad} {H : Hp} {p : Addr} {v0 v1 v2 v3 v4 y : V} {R : Hp → Prop} (T : Tx K mg a) (h : O_Known a H p v0 v1 v2 v3 v4) (q : ∀ H', O_Known a H' p v0 y v2 v3 v4 → Keep [p] H H' → R H') : stv K "number" (V.ref p) y H R := h.elim fun dx e => ⟨p, _, dx, _, rfl, e, T.c_Known.cl, T.c_Known.na _ (by decide +kernel), (by show 5 < 1000; decide), q _ ⟨dx, upd_same.trans (congrArg (fun z => some (HO.ins a.c_Known dx z)) pt_Known_number)⟩ keep_upd⟩
theorem lk_Known_place {v0 v1 v2 v3 v4 : V} : (fl_Known v0 v1 v2 v3 v4).lookup ("place" : Str) = some v2 := (lk_past (by decide +kernel)).trans ((lk_past (by decide +kernel)).trans (lk_here))
theorem g_Known_place {K : PySem.W.Frag} {mg : Str → Option Value} {a : Ad} {H : Hp} {p : Addr} {v0 v1 v2 v3 v4 : V} {Q : VK} (T : Tx K mg a) (h : O_Known a H p v0 v1 v2 v3 v4) (q : Q v2 H) : fldv K "place" (V.ref p) H Q := h.elim fun dx e => ⟨p, _, dx, _, _, rfl, e, T.c_Known.cl, T.c_Known.na _ (by decide +kernel), lk_Known_place, q⟩
theorem pt_Known_place {v0 v1 v2 v3 v4 y : V} : putF ("place" : Str) y (fl_Known v0 v1 v2 v3 v4) = fl_Known v0 v1 y v3 v4 := (put_past (by decide +kernel)).trans (congrArg _ ((put_past (by decide +kernel)).trans (congrArg _ (put_here))))
theorem st_Known_place {K : PySem.W.Frag} {mg : Str → Option Value} {a : Ad} {H : Hp} {p : Addr} {v0 v1 v2 v3 v4 y : V} {R : Hp → Prop} (T : Tx K mg a) (h : O_Known a H p v0 v1 v2 v3 v4) (q : ∀ H', O_Known a H' p v0 v1 y v3 v4 → Keep [p] H H' → R H') : stv K "place" (V.ref p) y H R := h.elim fun dx e => ⟨p, _, dx, _, rfl, e, T.c_Known.cl, T.c_Known.na _ (by decide +kernel), (by show 5 < 1000; decide), q _ ⟨dx, upd_same.trans (congrArg (fun z => some (HO.ins a.c_Known dx z)) pt_Known_place)⟩ keep_upd⟩
theorem lk_Known_taken {v0 v1 v2 v3 v4 : V} : (fl_Known v0 v1 v2 v3 v4).lookup ("taken" : Str) = some v3 := (lk_past (by decide +kernel)).trans ((lk_past (by decide +kernel)).trans ((lk_past (by decide +kernel)).trans (lk_here)))
theorem g_Known_taken {K : PySem.W.Frag} {mg : Str → Option Value} {a : Ad} {H : Hp} {p : Addr} {v0 v1 v2 v3 v4 : V} {Q : VK} (T : Tx K mg a) (h : O_Known a H p v0 v1 v2 v3 v4) (q : Q v3 H) : fldv K "taken" (V.ref p) H Q := h.elim fun dx e => ⟨p, _, dx, _, _, rfl, e, T.c_Known.cl, T.c_Known.na _ (by decide +kernel), lk_Known_taken, q⟩
theorem pt_Known_taken {v0 v1 v2 v3 v4 y : V} : putF ("taken" : Str) y (fl_Known v0 v1 v2 v3 v4) = fl_Known v0 v1 v2 y v4 := (put_past (by decide +kernel)).trans (congrArg _ ((put_past (by decide +kernel)).trans (congrArg _ ((put_past (by decide +kernel)).trans (congrArg _ (put_here))))))
theorem st_Known_taken {K : PySem.W.Frag} {mg : Str → Option Value} {a : Ad} {H : Hp} {p : Addr} {v0 v1 v2 v3 v4 y : V} {R : Hp → Prop} (T : Tx K mg a) (h : O_Known a H p v0 v1 v2 v3 v4) (q : ∀ H', O_Known a H' p v0 v1 v2 y v4 → Keep [p] H H' → R H') : stv K "taken" (V.ref p) y H R := h.elim fun dx e => ⟨p, _, dx, _, rfl, e, T.c_Known.cl, T.c_Known.na _ (by decide +kernel), (by show 5 < 1000; decide), q _ ⟨dx, upd_same.trans (congrArg (fun z => some (HO.ins a.c_Known dx z)) pt_Known_taken)⟩ keep_upd⟩
theorem lk_Known_newest {v0 v1 v2 v3 v4 : V} : (fl_Known v0 v1 v2 v3 v4).lookup ("newest" : Str) = some v4 := (lk_past (by decide +kernel)).trans ((lk_past (by decide +kernel)).trans ((lk_past (by decide +kernel)).trans ((lk_past (by decide +kernel)).trans (lk_here))))
theorem g_Known_newest {K : PySem.W.Frag} {mg : Str → Option Value} {a : Ad} {H : Hp} {p : Addr} {v0 v1 v2 v3 v4 : V} {Q : VK} (T : Tx K mg a) (h : O_Known a H p v0 v1 v2 v3 v4) (q : Q v4 H) : fldv K "newest" (V.ref p) H Q := h.elim fun dx e => ⟨p, _, dx, _, _, rfl, e, T.c_Known.cl, T.c_Known.na _ (by decide +kernel), lk_Known_newest, q⟩
theorem pt_Known_newest {v0 v1 v2 v3 v4 y : V} : putF ("newest" : Str) y (fl_Known v0 v1 v2 v3 v4) = fl_Known v0 v1 v2 v3 y := (put_past (by decide +kernel)).trans (congrArg _ ((put_past (by decide +kernel)).trans (congrArg _ ((put_past (by decide +kernel)).trans (congrArg _ ((put_past (by decide +kernel)).trans (congrArg _ (put_here))))))))
theorem st_Known_newest {K : PySem.W.Frag} {mg : Str → Option Value} {a : Ad} {H : Hp} {p : Addr} {v0 v1 v2 v3 v4 y : V} {R : Hp → Prop} (T : Tx K mg a) (h : O_Known a H p v0 v1 v2 v3 v4) (q : ∀ H', O_Known a H' p v0 v1 v2 v3 y → Keep [p] H H' → R H') : stv K "newest" (V.ref p) y H R := h.elim fun dx e => ⟨p, _, dx, _, rfl, e, T.c_Known.cl, T.c_Known.na _ (by decide +kernel), (by show 5 < 1000; decide), q _ ⟨dx, upd_same.trans (congrArg (fun z => some (HO.ins a.c_Known dx z)) pt_Known_newest)⟩ keep_upd⟩
theorem np_Known_head {y : V} : putF ("head" : Str) y [] = [(("head" : Str), y)] := rfl
theorem ini_Known_head {K : PySem.W.Frag} {mg : Str → Option Value} {a : Ad} {H : Hp} {p dx : Addr} {y : V} {R : Hp → Prop} (T : Tx K mg a) (h : H p = some (.ins a.c_Known dx [])) (q : ∀ H', H' p = some (.ins a.c_Known dx [(("head" : Str), y)]) → Keep [p] H H' → R H') : stv K "head" (V.ref p) y H R := ⟨p, _, dx, _, rfl, h, T.c_Known.cl, T.c_Known.na _ (by decide +kernel), (by show 0 < 1000; decide), q _ (upd_same.trans (congrArg (fun z => some (HO.ins a.c_Known dx z)) np_Known_head)) keep_upd⟩
theorem np_Known_number {v0 y : V} : putF ("number" : Str) y [(("head" : Str), v0)] = [(("head" : Str), v0), (("number" : Str), y)] := (put_past (by decide +kernel)).trans (congrArg _ (rfl))
theorem ini_Known_number {K : PySem.W.Frag} {mg : Str → Option Value} {a : Ad} {H : Hp} {p dx : Addr} {v0 y : V} {R : Hp → Prop} (T : Tx K mg a) (h : H p = some (.ins a.c_Known dx [(("head" : Str), v0)])) (q : ∀ H', H' p = some (.ins a.c_Known dx [(("head" : Str), v0), (("number" : Str), y)]) → Keep [p] H H' → R H') : stv K "number" (V.ref p) y H R := ⟨p, _, dx, _, rfl, h, T.c_Known.cl, T.c_Known.na _ (by decide +kernel), (by show 1 < 1000; decide), q _ (upd_same.trans (congrArg (fun z => some (HO.ins a.c_Known dx z)) np_Known_number)) keep_upd⟩
theorem np_Known_place {v0 v1 y : V} : putF ("place" : Str) y [(("head" : Str), v0), (("number" : Str), v1)] = [(("head" : Str), v0), (("number" : Str), v1), (("place" : Str), y)] := (put_past (by decide +kernel)).trans (congrArg _ ((put_past (by decide +kernel)).trans (congrArg _ (rfl))))
theorem ini_Known_place {K : PySem.W.Frag} {mg : Str → Option Value} {a : Ad} {H : Hp} {p dx : Addr} {v0 v1 y : V} {R : Hp → Prop} (T : Tx K mg a) (h : H p = some (.ins a.c_Known dx [(("head" : Str), v0), (("number" : Str), v1)])) (q : ∀ H', H' p = some (.ins a.c_Known dx [(("head" : Str), v0), (("number" : Str), v1), (("place" : Str), y)]) → Keep [p] H H' → R H') : stv K "place" (V.ref p) y H R := ⟨p, _, dx, _, rfl, h, T.c_Known.cl, T.c_Known.na _ (by decide +kernel), (by show 2 < 1000; decide), q _ (upd_same.trans (congrArg (fun z => some (HO.ins a.c_Known dx z)) np_Known_place)) keep_upd⟩
theorem np_Known_taken {v0 v1 v2 y : V} : putF ("taken" : Str) y [(("head" : Str), v0), (("number" : Str), v1), (("place" : Str), v2)] = [(("head" : Str), v0), (("number" : Str), v1), (("place" : Str), v2), (("taken" : Str), y)] := (put_past (by decide +kernel)).trans (congrArg _ ((put_past (by decide +kernel)).trans (congrArg _ ((put_past (by decide +kernel)).trans (congrArg _ (rfl))))))
theorem ini_Known_taken {K : PySem.W.Frag} {mg : Str → Option Value} {a : Ad} {H : Hp} {p dx : Addr} {v0 v1 v2 y : V} {R : Hp → Prop} (T : Tx K mg a) (h : H p = some (.ins a.c_Known dx [(("head" : Str), v0), (("number" : Str), v1), (("place" : Str), v2)])) (q : ∀ H', H' p = some (.ins a.c_Known dx [(("head" : Str), v0), (("number" : Str), v1), (("place" : Str), v2), (("taken" : Str), y)]) → Keep [p] H H' → R H') : stv K "taken" (V.ref p) y H R := ⟨p, _, dx, _, rfl, h, T.c_Known.cl, T.c_Known.na _ (by decide +kernel), (by show 3 < 1000; decide), q _ (upd_same.trans (congrArg (fun z => some (HO.ins a.c_Known dx z)) np_Known_taken)) keep_upd⟩
theorem np_Known_newest {v0 v1 v2 v3 y : V} : putF ("newest" : Str) y [(("head" : Str), v0), (("number" : Str), v1), (("place" : Str), v2), (("taken" : Str), v3)] = [(("head" : Str), v0), (("number" : Str), v1), (("place" : Str), v2), (("taken" : Str), v3), (("newest" : Str), y)] := (put_past (by decide +kernel)).trans (congrArg _ ((put_past (by decide +kernel)).trans (congrArg _ ((put_past (by decide +kernel)).trans (congrArg _ ((put_past (by decide +kernel)).trans (congrArg _ (rfl))))))))
theorem ini_Known_newest {K : PySem.W.Frag} {mg : Str → Option Value} {a : Ad} {H : Hp} {p dx : Addr} {v0 v1 v2 v3 y : V} {R : Hp → Prop} (T : Tx K mg a) (h : H p = some (.ins a.c_Known dx [(("head" : Str), v0), (("number" : Str), v1), (("place" : Str), v2), (("taken" : Str), v3)])) (q : ∀ H', H' p = some (.ins a.c_Known dx [(("head" : Str), v0), (("number" : Str), v1), (("place" : Str), v2), (("taken" : Str), v3), (("newest" : Str), y)]) → Keep [p] H H' → R H') : stv K "newest" (V.ref p) y H R := ⟨p, _, dx, _, rfl, h, T.c_Known.cl, T.c_Known.na _ (by decide +kernel), (by show 4 < 1000; decide), q _ (upd_same.trans (congrArg (fun z => some (HO.ins a.c_Known dx z)) np_Known_newest)) keep_upd⟩
/-- an instance of Operation -/
def fl_Operation (v0 v1 v2 : V) : List (Str × V) := [("answer", v0), ("actions", v1), ("known", v2)]
def O_Operation (a : Ad) (H : Hp) (p : Addr) (v0 v1 v2 : V) : Prop := ∃ dx, H p = some (.ins a.c_Operation dx (fl_Operation v0 v1 v2))
theorem O_Operation.mono {a : Ad} {H H' : Hp} {p : Addr} {v0 v1 v2 : V} (s : Same H H') (h : O_Operation a H p v0 v1 v2) : O_Operation a H' p v0 v1 v2 := h.elim fun dx e => ⟨dx, s _ _ e⟩
theorem lk_Operation_answer {v0 v1 v2 : V} : (fl_Operation v0 v1 v2).lookup ("answer" : Str) = some v0 := lk_here
theorem g_Operation_answer {K : PySem.W.Frag} {mg : Str → Option Value} {a : Ad} {H : Hp} {p : Addr} {v0 v1 v2 : V} {Q : VK} (T : Tx K mg a) (h : O_Operation a H p v0 v1 v2) (q : Q v0 H) : fldv K "answer" (V.ref p) H Q := h.elim fun dx e => ⟨p, _, dx, _, _, rfl, e, T.c_Operation.cl, T.c_Operation.na _ (by decide +kernel), lk_Operation_answer, q⟩
theorem pt_Operation_answer {v0 v1 v2 y : V} : putF ("answer" : Str) y (fl_Operation v0 v1 v2) = fl_Operation y v1 v2 := put_here
theorem st_Operation_answer {K : PySem.W.Frag} {mg : Str → Option Value} {a : Ad} {H : Hp} {p : Addr} {v0 v1 v2 y : V} {R : Hp → Prop} (T : Tx K mg a) (h : O_Operation a H p v0 v1 v2) (q : ∀ H', O_Operation a H' p y v1 v2 → Keep [p] H H' → R H') : stv K "answer" (V.ref p) y H R := h.elim fun dx e => ⟨p, _, dx, _, rfl, e, T.c_Operation.cl, T.c_Operation.na _ (by decide +kernel), (by show 3 < 1000; decide), q _ ⟨dx, upd_same.trans (congrArg (fun z => some (HO.ins a.c_Operation dx z)) pt_Operation_answer)⟩ keep_upd⟩
theorem lk_Operation_actions {v0 v1 v2 : V} : (fl_Operation v0 v1 v2).lookup ("actions" : Str) = some v1 := (lk_past (by decide +kernel)).trans (lk_here)
theorem g_Operation_actions {K : PySem.W.Frag} {mg : Str → Option Value} {a : Ad} {H : Hp} {p : Addr} {v0 v1 v2 : V} {Q : VK} (T : Tx K mg a) (h : O_Operation a H p v0 v1 v2) (q : Q v1 H) : fldv K "actions" (V.ref p) H Q := h.elim fun dx e => ⟨p, _, dx, _, _, rfl, e, T.c_Operation.cl, T.c_Operation.na _ (by decide +kernel), lk_Operation_actions, q⟩
theorem pt_Operation_actions {v0 v1 v2 y : V} : putF ("actions" : Str) y (fl_Operation v0 v1 v2) = fl_Operation v0 y v2 := (put_past (by decide +kernel)).trans (congrArg _ (put_here))
theorem st_Operation_actions {K : PySem.W.Frag} {mg : Str → Option Value} {a : Ad} {H : Hp} {p : Addr} {v0 v1 v2 y : V} {R : Hp → Prop} (T : Tx K mg a) (h : O_Operation a H p v0 v1 v2) (q : ∀ H', O_Operation a H' p v0 y v2 → Keep [p] H H' → R H') : stv K "actions" (V.ref p) y H R := h.elim fun dx e => ⟨p, _, dx, _, rfl, e, T.c_Operation.cl, T.c_Operation.na _ (by decide +kernel), (by show 3 < 1000; decide), q _ ⟨dx, upd_same.trans (congrArg (fun z => some (HO.ins a.c_Operation dx z)) pt_Operation_actions)⟩ keep_upd⟩
theorem lk_Operation_known {v0 v1 v2 : V} : (fl_Operation v0 v1 v2).lookup ("known" : Str) = some v2 := (lk_past (by decide +kernel)).trans ((lk_past (by decide +kernel)).trans (lk_here))
theorem g_Operation_known {K : PySem.W.Frag} {mg : Str → Option Value} {a : Ad} {H : Hp} {p : Addr} {v0 v1 v2 : V} {Q : VK} (T : Tx K mg a) (h : O_Operation a H p v0 v1 v2) (q : Q v2 H) : fldv K "known" (V.ref p) H Q := h.elim fun dx e => ⟨p, _, dx, _, _, rfl, e, T.c_Operation.cl, T.c_Operation.na _ (by decide +kernel), lk_Operation_known, q⟩
theorem pt_Operation_known {v0 v1 v2 y : V} : putF ("known" : Str) y (fl_Operation v0 v1 v2) = fl_Operation v0 v1 y := (put_past (by decide +kernel)).trans (congrArg _ ((put_past (by decide +kernel)).trans (congrArg _ (put_here))))
theorem st_Operation_known {K : PySem.W.Frag} {mg : Str → Option Value} {a : Ad} {H : Hp} {p : Addr} {v0 v1 v2 y : V} {R : Hp → Prop} (T : Tx K mg a) (h : O_Operation a H p v0 v1 v2) (q : ∀ H', O_Operation a H' p v0 v1 y → Keep [p] H H' → R H') : stv K "known" (V.ref p) y H R := h.elim fun dx e => ⟨p, _, dx, _, rfl, e, T.c_Operation.cl, T.c_Operation.na _ (by decide +kernel), (by show 3 < 1000; decide), q _ ⟨dx, upd_same.trans (congrArg (fun z => some (HO.ins a.c_Operation dx z)) pt_Operation_known)⟩ keep_upd⟩
theorem np_Operation_answer {y : V} : putF ("answer" : Str) y [] = [(("answer" : Str), y)] := rfl
theorem ini_Operation_answer {K : PySem.W.Frag} {mg : Str → Option Value} {a : Ad} {H : Hp} {p dx : Addr} {y : V} {R : Hp → Prop} (T : Tx K mg a) (h : H p = some (.ins a.c_Operation dx [])) (q : ∀ H', H' p = some (.ins a.c_Operation dx [(("answer" : Str), y)]) → Keep [p] H H' → R H') : stv K "answer" (V.ref p) y H R := ⟨p, _, dx, _, rfl, h, T.c_Operation.cl, T.c_Operation.na _ (by decide +kernel), (by show 0 < 1000; decide), q _ (upd_same.trans (congrArg (fun z => some (HO.ins a.c_Operation dx z)) np_Operation_answer)) keep_upd⟩
theorem np_Operation_actions {v0 y : V} : putF ("actions" : Str) y [(("answer" : Str), v0)] = [(("answer" : Str), v0), (("actions" : Str), y)] := (put_past (by decide +kernel)).trans (congrArg _ (rfl))
theorem ini_Operation_actions {K : PySem.W.Frag} {mg : Str → Option Value} {a : Ad} {H : Hp} {p dx : Addr} {v0 y : V} {R : Hp → Prop} (T : Tx K mg a) (h : H p = some (.ins a.c_Operation dx [(("answer" : Str), v0)])) (q : ∀ H', H' p = some (.ins a.c_Operation dx [(("answer" : Str), v0), (("actions" : Str), y)]) → Keep [p] H H' → R H') : stv K "actions" (V.ref p) y H R := ⟨p, _, dx, _, rfl, h, T.c_Operation.cl, T.c_Operation.na _ (by decide +kernel), (by show 1 < 1000; decide), q _ (upd_same.trans (congrArg (fun z => some (HO.ins a.c_Operation dx z)) np_Operation_actions)) keep_upd⟩
theorem np_Operation_known {v0 v1 y : V} : putF ("known" : Str) y [(("answer" : Str), v0), (("actions" : Str), v1)] = [(("answer" : Str), v0), (("actions" : Str), v1), (("known" : Str), y)] := (put_past (by decide +kernel)).trans (congrArg _ ((put_past (by decide +kernel)).trans (congrArg _ (rfl))))
theorem ini_Operation_known {K : PySem.W.Frag} {mg : Str → Option Value} {a : Ad} {H : Hp} {p dx : Addr} {v0 v1 y : V} {R : Hp → Prop} (T : Tx K mg a) (h : H p = some (.ins a.c_Operation dx [(("answer" : Str), v0), (("actions" : Str), v1)])) (q : ∀ H', H' p = some (.ins a.c_Operation dx [(("answer" : Str), v0), (("actions" : Str), v1), (("known" : Str), y)]) → Keep [p] H H' → R H') : stv K "known" (V.ref p) y H R := ⟨p, _, dx, _, rfl, h, T.c_Operation.cl, T.c_Operation.na _ (by decide +kernel), (by show 2 < 1000; decide), q _ (upd_same.trans (congrArg (fun z => some (HO.ins a.c_Operation dx z)) np_Operation_known)) keep_upd⟩
/-- an instance of Drive -/
def fl_Drive (v0 v1 : V) : List (Str × V) := [("medium", v0), ("known", v1)]
def O_Drive (a : Ad) (H : Hp) (p : Addr) (v0 v1 : V) : Prop := ∃ dx, H p = some (.ins a.c_Drive dx (fl_Drive v0 v1))
theorem O_Drive.mono {a : Ad} {H H' : Hp} {p : Addr} {v0 v1 : V} (s : Same H H') (h : O_Drive a H p v0 v1) : O_Drive a H' p v0 v1 := h.elim fun dx e => ⟨dx, s _ _ e⟩
theorem lk_Drive_medium {v0 v1 : V} : (fl_Drive v0 v1).lookup ("medium" : Str) = some v0 := lk_here
theorem g_Drive_medium {K : PySem.W.Frag} {mg : Str → Option Value} {a : Ad} {H : Hp} {p : Addr} {v0 v1 : V} {Q : VK} (T : Tx K mg a) (h : O_Drive a H p v0 v1) (q : Q v0 H) : fldv K "medium" (V.ref p) H Q := h.elim fun dx e => ⟨p, _, dx, _, _, rfl, e, T.c_Drive.cl, T.c_Drive.na _ (by decide +kernel), lk_Drive_medium, q⟩
theorem pt_Drive_medium {v0 v1 y : V} : putF ("medium" : Str) y (fl_Drive v0 v1) = fl_Drive y v1 := put_here
theorem st_Drive_medium {K : PySem.W.Frag} {mg : Str → Option Value} {a : Ad} {H : Hp} {p : Addr} {v0 v1 y : V} {R : Hp → Prop} (T : Tx K mg a) (h : O_Drive a H p v0 v1) (q : ∀ H', O_Drive a H' p y v1 → Keep [p] H H' → R H') : stv K "medium" (V.ref p) y H R := h.elim fun dx e => ⟨p, _, dx, _, rfl, e, T.c_Drive.cl, T.c_Drive.na _ (by decide +kernel), (by show 2 < 1000; decide), q _ ⟨dx, upd_same.trans (congrArg (fun z => some (HO.ins a.c_Drive dx z)) pt_Drive_medium)⟩ keep_upd⟩
theorem lk_Drive_known {v0 v1 : V} : (fl_Drive v0 v1).lookup ("known" : Str) = some v1 := (lk_past (by decide +kernel)).trans (lk_here)
theorem g_Drive_known {K : PySem.W.Frag} {mg : Str → Option Value} {a : Ad} {H : Hp} {p : Addr} {v0 v1 : V} {Q : VK} (T : Tx K mg a) (h : O_Drive a H p v0 v1) (q : Q v1 H) : fldv K "known" (V.ref p) H Q := h.elim fun dx e => ⟨p, _, dx, _, _, rfl, e, T.c_Drive.cl, T.c_Drive.na _ (by decide +kernel), lk_Drive_known, q⟩
theorem pt_Drive_known {v0 v1 y : V} : putF ("known" : Str) y (fl_Drive v0 v1) = fl_Drive v0 y := (put_past (by decide +kernel)).trans (congrArg _ (put_here))
theorem st_Drive_known {K : PySem.W.Frag} {mg : Str → Option Value} {a : Ad} {H : Hp} {p : Addr} {v0 v1 y : V} {R : Hp → Prop} (T : Tx K mg a) (h : O_Drive a H p v0 v1) (q : ∀ H', O_Drive a H' p v0 y → Keep [p] H H' → R H') : stv K "known" (V.ref p) y H R := h.elim fun dx e => ⟨p, _, dx, _, rfl, e, T.c_Drive.cl, T.c_Drive.na _ (by decide +kernel), (by show 2 < 1000; decide), q _ ⟨dx, upd_same.trans (congrArg (fun z => some (HO.ins a.c_Drive dx z)) pt_Drive_known)⟩ keep_upd⟩
theorem np_Drive_medium {y : V} : putF ("medium" : Str) y [] = [(("medium" : Str), y)] := rfl
theorem ini_Drive_medium {K : PySem.W.Frag} {mg : Str → Option Value} {a : Ad} {H : Hp} {p dx : Addr} {y : V} {R : Hp → Prop} (T : Tx K mg a) (h : H p = some (.ins a.c_Drive dx [])) (q : ∀ H', H' p = some (.ins a.c_Drive dx [(("medium" : Str), y)]) → Keep [p] H H' → R H') : stv K "medium" (V.ref p) y H R := ⟨p, _, dx, _, rfl, h, T.c_Drive.cl, T.c_Drive.na _ (by decide +kernel), (by show 0 < 1000; decide), q _ (upd_same.trans (congrArg (fun z => some (HO.ins a.c_Drive dx z)) np_Drive_medium)) keep_upd⟩
theorem np_Drive_known {v0 y : V} : putF ("known" : Str) y [(("medium" : Str), v0)] = [(("medium" : Str), v0), (("known" : Str), y)] := (put_past (by decide +kernel)).trans (congrArg _ (rfl))
theorem ini_Drive_known {K : PySem.W.Frag} {mg : Str → Option Value} {a : Ad} {H : Hp} {p dx : Addr} {v0 y : V} {R : Hp → Prop} (T : Tx K mg a) (h : H p = some (.ins a.c_Drive dx [(("medium" : Str), v0)])) (q : ∀ H', H' p = some (.ins a.c_Drive dx [(("medium" : Str), v0), (("known" : Str), y)]) → Keep [p] H H' → R H') : stv K "known" (V.ref p) y H R := ⟨p, _, dx, _, rfl, h, T.c_Drive.cl, T.c_Drive.na _ (by decide +kernel), (by show 1 < 1000; decide), q _ (upd_same.trans (congrArg (fun z => some (HO.ins a.c_Drive dx z)) np_Drive_known)) keep_upd⟩
theorem no_Drive_make {v0 v1 : V} : (fl_Drive v0 v1).lookup ("make" : Str) = none := (lk_past (by decide +kernel)).trans ((lk_past (by decide +kernel)).trans (rfl))
theorem m_Drive_make {a : Ad} {H : Hp} {p : Addr} {v0 v1 : V} {t : TA} {σ : L2.St} {sp : Sp} {E : XK} {Q : VK} (h : O_Drive a H p v0 v1) (q : t σ H fun vs H2 => sp (V.ref p :: (vs ++ [])) H2 Q E) : methv a.c_Drive "make" sp E t σ (V.ref p) H Q := h.elim fun dx e => ⟨p, dx, _, rfl, e, no_Drive_make, q⟩
theorem no_Drive_read {v0 v1 : V} : (fl_Drive v0 v1).lookup ("read" : Str) = none := (lk_past (by decide +kernel)).trans ((lk_past (by decide +kernel)).trans (rfl))
theorem m_Drive_read {a : Ad} {H : Hp} {p : Addr} {v0 v1 : V} {t : TA} {σ : L2.St} {sp : Sp} {E : XK} {Q : VK} (h : O_Drive a H p v0 v1) (q : t σ H fun vs H2 => sp (V.ref p :: (vs ++ [])) H2 Q E) : methv a.c_Drive "read" sp E t σ (V.ref p) H Q := h.elim fun dx e => ⟨p, dx, _, rfl, e, no_Drive_read, q⟩
theorem no_Drive_operation {v0 v1 : V} : (fl_Drive v0 v1).lookup ("operation" : Str) = none := (lk_past (by decide +kernel)).trans ((lk_past (by decide +kernel)).trans (rfl))
theorem m_Drive_operation {a : Ad} {H : Hp} {p : Addr} {v0 v1 : V} {t : TA} {σ : L2.St} {sp : Sp} {E : XK} {Q : VK} (h : O_Drive a H p v0 v1) (q : t σ H fun vs H2 => sp (V.ref p :: (vs ++ [])) H2 Q E) : methv a.c_Drive "operation" sp E t σ (V.ref p) H Q := h.elim fun dx e => ⟨p, dx, _, rfl, e, no_Drive_operation, q⟩
theorem no_Drive_operate {v0 v1 : V} : (fl_Drive v0 v1).lookup ("operate" : Str) = none := (lk_past (by decide +kernel)).trans ((lk_past (by decide +kernel)).trans (rfl))
theorem m_Drive_operate {a : Ad} {H : Hp} {p : Addr} {v0 v1 : V} {t : TA} {σ : L2.St} {sp : Sp} {E : XK} {Q : VK} (h : O_Drive a H p v0 v1) (q : t σ H fun vs H2 => sp (V.ref p :: (vs ++ [])) H2 Q E) : methv a.c_Drive "operate" sp E t σ (V.ref p) H Q := h.elim fun dx e => ⟨p, dx, _, rfl, e, no_Drive_operate, q⟩
theorem no_Drive_cut {v0 v1 : V} : (fl_Drive v0 v1).lookup ("cut" : Str) = none := (lk_past (by decide +kernel)).trans ((lk_past (by decide +kernel)).trans (rfl))
theorem m_Drive_cut {a : Ad} {H : Hp} {p : Addr} {v0 v1 : V} {t : TA} {σ : L2.St} {sp : Sp} {E : XK} {Q : VK} (h : O_Drive a H p v0 v1) (q : t σ H fun vs H2 => sp (V.ref p :: (vs ++ [])) H2 Q E) : methv a.c_Drive "cut" sp E t σ (V.ref p) H Q := h.elim fun dx e => ⟨p, dx, _, rfl, e, no_Drive_cut, q⟩
theorem no_Drive_cut_in {v0 v1 : V} : (fl_Drive v0 v1).lookup ("cut_in" : Str) = none := (lk_past (by decide +kernel)).trans ((lk_past (by decide +kernel)).trans (rfl))
theorem m_Drive_cut_in {a : Ad} {H : Hp} {p : Addr} {v0 v1 : V} {t : TA} {σ : L2.St} {sp : Sp} {E : XK} {Q : VK} (h : O_Drive a H p v0 v1) (q : t σ H fun vs H2 => sp (V.ref p :: (vs ++ [])) H2 Q E) : methv a.c_Drive "cut_in" sp E t σ (V.ref p) H Q := h.elim fun dx e => ⟨p, dx, _, rfl, e, no_Drive_cut_in, q⟩
theorem no_Drive_arrive {v0 v1 : V} : (fl_Drive v0 v1).lookup ("arrive" : Str) = none := (lk_past (by decide +kernel)).trans ((lk_past (by decide +kernel)).trans (rfl))
theorem m_Drive_arrive {a : Ad} {H : Hp} {p : Addr} {v0 v1 : V} {t : TA} {σ : L2.St} {sp : Sp} {E : XK} {Q : VK} (h : O_Drive a H p v0 v1) (q : t σ H fun vs H2 => sp (V.ref p :: (vs ++ [])) H2 Q E) : methv a.c_Drive "arrive" sp E t σ (V.ref p) H Q := h.elim fun dx e => ⟨p, dx, _, rfl, e, no_Drive_arrive, q⟩
theorem no_Drive_told {v0 v1 : V} : (fl_Drive v0 v1).lookup ("told" : Str) = none := (lk_past (by decide +kernel)).trans ((lk_past (by decide +kernel)).trans (rfl))
theorem m_Drive_told {a : Ad} {H : Hp} {p : Addr} {v0 v1 : V} {t : TA} {σ : L2.St} {sp : Sp} {E : XK} {Q : VK} (h : O_Drive a H p v0 v1) (q : t σ H fun vs H2 => sp (V.ref p :: (vs ++ [])) H2 Q E) : methv a.c_Drive "told" sp E t σ (V.ref p) H Q := h.elim fun dx e => ⟨p, dx, _, rfl, e, no_Drive_told, q⟩
theorem no_Drive_block {v0 v1 : V} : (fl_Drive v0 v1).lookup ("block" : Str) = none := (lk_past (by decide +kernel)).trans ((lk_past (by decide +kernel)).trans (rfl))
theorem m_Drive_block {a : Ad} {H : Hp} {p : Addr} {v0 v1 : V} {t : TA} {σ : L2.St} {sp : Sp} {E : XK} {Q : VK} (h : O_Drive a H p v0 v1) (q : t σ H fun vs H2 => sp (V.ref p :: (vs ++ [])) H2 Q E) : methv a.c_Drive "block" sp E t σ (V.ref p) H Q := h.elim fun dx e => ⟨p, dx, _, rfl, e, no_Drive_block, q⟩
theorem no_Drive_look {v0 v1 : V} : (fl_Drive v0 v1).lookup ("look" : Str) = none := (lk_past (by decide +kernel)).trans ((lk_past (by decide +kernel)).trans (rfl))
theorem m_Drive_look {a : Ad} {H : Hp} {p : Addr} {v0 v1 : V} {t : TA} {σ : L2.St} {sp : Sp} {E : XK} {Q : VK} (h : O_Drive a H p v0 v1) (q : t σ H fun vs H2 => sp (V.ref p :: (vs ++ [])) H2 Q E) : methv a.c_Drive "look" sp E t σ (V.ref p) H Q := h.elim fun dx e => ⟨p, dx, _, rfl, e, no_Drive_look, q⟩
theorem no_Drive_save {v0 v1 : V} : (fl_Drive v0 v1).lookup ("save" : Str) = none := (lk_past (by decide +kernel)).trans ((lk_past (by decide +kernel)).trans (rfl))
theorem m_Drive_save {a : Ad} {H : Hp} {p : Addr} {v0 v1 : V} {t : TA} {σ : L2.St} {sp : Sp} {E : XK} {Q : VK} (h : O_Drive a H p v0 v1) (q : t σ H fun vs H2 => sp (V.ref p :: (vs ++ [])) H2 Q E) : methv a.c_Drive "save" sp E t σ (V.ref p) H Q := h.elim fun dx e => ⟨p, dx, _, rfl, e, no_Drive_save, q⟩
theorem no_Drive_load {v0 v1 : V} : (fl_Drive v0 v1).lookup ("load" : Str) = none := (lk_past (by decide +kernel)).trans ((lk_past (by decide +kernel)).trans (rfl))
theorem m_Drive_load {a : Ad} {H : Hp} {p : Addr} {v0 v1 : V} {t : TA} {σ : L2.St} {sp : Sp} {E : XK} {Q : VK} (h : O_Drive a H p v0 v1) (q : t σ H fun vs H2 => sp (V.ref p :: (vs ++ [])) H2 Q E) : methv a.c_Drive "load" sp E t σ (V.ref p) H Q := h.elim fun dx e => ⟨p, dx, _, rfl, e, no_Drive_load, q⟩
theorem no_Drive_plan {v0 v1 : V} : (fl_Drive v0 v1).lookup ("plan" : Str) = none := (lk_past (by decide +kernel)).trans ((lk_past (by decide +kernel)).trans (rfl))
theorem m_Drive_plan {a : Ad} {H : Hp} {p : Addr} {v0 v1 : V} {t : TA} {σ : L2.St} {sp : Sp} {E : XK} {Q : VK} (h : O_Drive a H p v0 v1) (q : t σ H fun vs H2 => sp (V.ref p :: (vs ++ [])) H2 Q E) : methv a.c_Drive "plan" sp E t σ (V.ref p) H Q := h.elim fun dx e => ⟨p, dx, _, rfl, e, no_Drive_plan, q⟩
/-- an instance of Reader -/
def fl_Reader (v0 v1 : V) : List (Str × V) := [("calls", v0), ("at", v1)]
def O_Reader (a : Ad) (H : Hp) (p : Addr) (v0 v1 : V) : Prop := ∃ dx, H p = some (.ins a.c_Reader dx (fl_Reader v0 v1))
theorem O_Reader.mono {a : Ad} {H H' : Hp} {p : Addr} {v0 v1 : V} (s : Same H H') (h : O_Reader a H p v0 v1) : O_Reader a H' p v0 v1 := h.elim fun dx e => ⟨dx, s _ _ e⟩
theorem lk_Reader_calls {v0 v1 : V} : (fl_Reader v0 v1).lookup ("calls" : Str) = some v0 := lk_here
theorem g_Reader_calls {K : PySem.W.Frag} {mg : Str → Option Value} {a : Ad} {H : Hp} {p : Addr} {v0 v1 : V} {Q : VK} (T : Tx K mg a) (h : O_Reader a H p v0 v1) (q : Q v0 H) : fldv K "calls" (V.ref p) H Q := h.elim fun dx e => ⟨p, _, dx, _, _, rfl, e, T.c_Reader.cl, T.c_Reader.na _ (by decide +kernel), lk_Reader_calls, q⟩
theorem pt_Reader_calls {v0 v1 y : V} : putF ("calls" : Str) y (fl_Reader v0 v1) = fl_Reader y v1 := put_here
theorem st_Reader_calls {K : PySem.W.Frag} {mg : Str → Option Value} {a : Ad} {H : Hp} {p : Addr} {v0 v1 y : V} {R : Hp → Prop} (T : Tx K mg a) (h : O_Reader a H p v0 v1) (q : ∀ H', O_Reader a H' p y v1 → Keep [p] H H' → R H') : stv K "calls" (V.ref p) y H R := h.elim fun dx e => ⟨p, _, dx, _, rfl, e, T.c_Reader.cl, T.c_Reader.na _ (by decide +kernel), (by show 2 < 1000; decide), q _ ⟨dx, upd_same.trans (congrArg (fun z => some (HO.ins a.c_Reader dx z)) pt_Reader_calls)⟩ keep_upd⟩
theorem lk_Reader_at {v0 v1 : V} : (fl_Reader v0 v1).lookup ("at" : Str) = some v1 := (lk_past (by decide +kernel)).trans (lk_here)
theorem g_Reader_at {K : PySem.W.Frag} {mg : Str → Option Value} {a : Ad} {H : Hp} {p : Addr} {v0 v1 : V} {Q : VK} (T : Tx K mg a) (h : O_Reader a H p v0 v1) (q : Q v1 H) : fldv K "at" (V.ref p) H Q := h.elim fun dx e => ⟨p, _, dx, _, _, rfl, e, T.c_Reader.cl, T.c_Reader.na _ (by decide +kernel), lk_Reader_at, q⟩
theorem pt_Reader_at {v0 v1 y : V} : putF ("at" : Str) y (fl_Reader v0 v1) = fl_Reader v0 y := (put_past (by decide +kernel)).trans (congrArg _ (put_here))
theorem st_Reader_at {K : PySem.W.Frag} {mg : Str → Option Value} {a : Ad} {H : Hp} {p : Addr} {v0 v1 y : V} {R : Hp → Prop} (T : Tx K mg a) (h : O_Reader a H p v0 v1) (q : ∀ H', O_Reader a H' p v0 y → Keep [p] H H' → R H') : stv K "at" (V.ref p) y H R := h.elim fun dx e => ⟨p, _, dx, _, rfl, e, T.c_Reader.cl, T.c_Reader.na _ (by decide +kernel), (by show 2 < 1000; decide), q _ ⟨dx, upd_same.trans (congrArg (fun z => some (HO.ins a.c_Reader dx z)) pt_Reader_at)⟩ keep_upd⟩
theorem np_Reader_calls {y : V} : putF ("calls" : Str) y [] = [(("calls" : Str), y)] := rfl
theorem ini_Reader_calls {K : PySem.W.Frag} {mg : Str → Option Value} {a : Ad} {H : Hp} {p dx : Addr} {y : V} {R : Hp → Prop} (T : Tx K mg a) (h : H p = some (.ins a.c_Reader dx [])) (q : ∀ H', H' p = some (.ins a.c_Reader dx [(("calls" : Str), y)]) → Keep [p] H H' → R H') : stv K "calls" (V.ref p) y H R := ⟨p, _, dx, _, rfl, h, T.c_Reader.cl, T.c_Reader.na _ (by decide +kernel), (by show 0 < 1000; decide), q _ (upd_same.trans (congrArg (fun z => some (HO.ins a.c_Reader dx z)) np_Reader_calls)) keep_upd⟩
theorem np_Reader_at {v0 y : V} : putF ("at" : Str) y [(("calls" : Str), v0)] = [(("calls" : Str), v0), (("at" : Str), y)] := (put_past (by decide +kernel)).trans (congrArg _ (rfl))
theorem ini_Reader_at {K : PySem.W.Frag} {mg : Str → Option Value} {a : Ad} {H : Hp} {p dx : Addr} {v0 y : V} {R : Hp → Prop} (T : Tx K mg a) (h : H p = some (.ins a.c_Reader dx [(("calls" : Str), v0)])) (q : ∀ H', H' p = some (.ins a.c_Reader dx [(("calls" : Str), v0), (("at" : Str), y)]) → Keep [p] H H' → R H') : stv K "at" (V.ref p) y H R := ⟨p, _, dx, _, rfl, h, T.c_Reader.cl, T.c_Reader.na _ (by decide +kernel), (by show 1 < 1000; decide), q _ (upd_same.trans (congrArg (fun z => some (HO.ins a.c_Reader dx z)) np_Reader_at)) keep_upd⟩
theorem no_Reader_is_at_end {v0 v1 : V} : (fl_Reader v0 v1).lookup ("is_at_end" : Str) = none := (lk_past (by decide +kernel)).trans ((lk_past (by decide +kernel)).trans (rfl))
theorem m_Reader_is_at_end {a : Ad} {H : Hp} {p : Addr} {v0 v1 : V} {t : TA} {σ : L2.St} {sp : Sp} {E : XK} {Q : VK} (h : O_Reader a H p v0 v1) (q : t σ H fun vs H2 => sp (V.ref p :: (vs ++ [])) H2 Q E) : methv a.c_Reader "is_at_end" sp E t σ (V.ref p) H Q := h.elim fun dx e => ⟨p, dx, _, rfl, e, no_Reader_is_at_end, q⟩
theorem no_Reader_take {v0 v1 : V} : (fl_Reader v0 v1).lookup ("take" : Str) = none := (lk_past (by decide +kernel)).trans ((lk_past (by decide +kernel)).trans (rfl))
theorem m_Reader_take {a : Ad} {H : Hp} {p : Addr} {v0 v1 : V} {t : TA} {σ : L2.St} {sp : Sp} {E : XK} {Q : VK} (h : O_Reader a H p v0 v1) (q : t σ H fun vs H2 => sp (V.ref p :: (vs ++ [])) H2 Q E) : methv a.c_Reader "take" sp E t σ (V.ref p) H Q := h.elim fun dx e => ⟨p, dx, _, rfl, e, no_Reader_take, q⟩
theorem no_Reader_take_row {v0 v1 : V} : (fl_Reader v0 v1).lookup ("take_row" : Str) = none := (lk_past (by decide +kernel)).trans ((lk_past (by decide +kernel)).trans (rfl))
theorem m_Reader_take_row {a : Ad} {H : Hp} {p : Addr} {v0 v1 : V} {t : TA} {σ : L2.St} {sp : Sp} {E : XK} {Q : VK} (h : O_Reader a H p v0 v1) (q : t σ H fun vs H2 => sp (V.ref p :: (vs ++ [])) H2 Q E) : methv a.c_Reader "take_row" sp E t σ (V.ref p) H Q := h.elim fun dx e => ⟨p, dx, _, rfl, e, no_Reader_take_row, q⟩
end Dk
namespace Dm
open Fm08
/-! ### The sum: four of the steps at once -/
theorem half_xor (a b : Nat) : (a ^^^ b) / 2 = (a / 2) ^^^ (b / 2) := by
  apply Nat.eq_of_testBit_eq; intro i
  simp [Nat.testBit_div_two, Nat.testBit_xor]
theorem odd_xor (a b : Nat) : (a ^^^ b) % 2 = 1 ↔ ¬ (a % 2 = 1 ↔ b % 2 = 1) := by
  have h := Nat.testBit_xor (x := a) (y := b) (i := 0)
  simp only [Nat.testBit_zero] at h
  by_cases ha : a % 2 = 1 <;> by_cases hb : b % 2 = 1 <;> simp_all
theorem sumBit_xor (a b : Nat) : sumBit (a ^^^ b) = sumBit a ^^^ sumBit b := by
  unfold sumBit
  rw [half_xor]
  by_cases ha : a % 2 = 1 <;> by_cases hb : b % 2 = 1
  · rw [if_pos ha, if_pos hb, if_neg (fun h => (odd_xor a b).mp h ⟨fun _ => hb, fun _ => ha⟩)]
    apply Nat.eq_of_testBit_eq; intro i
    simp only [Nat.testBit_xor, Nat.zero_testBit]
    cases (a / 2).testBit i <;> cases (b / 2).testBit i <;> cases (0x82F63B78 : Nat).testBit i <;> rfl
  · rw [if_pos ha, if_neg hb, if_pos ((odd_xor a b).mpr fun h => hb (h.mp ha))]
    apply Nat.eq_of_testBit_eq; intro i
    simp only [Nat.testBit_xor, Nat.zero_testBit]
    cases (a / 2).testBit i <;> cases (b / 2).testBit i <;> cases (0x82F63B78 : Nat).testBit i <;> rfl
  · rw [if_neg ha, if_pos hb, if_pos ((odd_xor a b).mpr fun h => ha (h.mpr hb))]
    apply Nat.eq_of_testBit_eq; intro i
    simp only [Nat.testBit_xor, Nat.zero_testBit]
    cases (a / 2).testBit i <;> cases (b / 2).testBit i <;> cases (0x82F63B78 : Nat).testBit i <;> rfl
  · rw [if_neg ha, if_neg hb, if_neg (fun h => (odd_xor a b).mp h ⟨fun z => absurd z ha, fun z => absurd z hb⟩)]
    simp
theorem sumBit_even (n : Nat) : sumBit (2 * n) = n := by
  unfold sumBit
  rw [if_neg (by omega)]
  simp
def four (c : Nat) : Nat := sumBit (sumBit (sumBit (sumBit c)))
def TAB : List Nat := [0x00000000, 0x105EC76F, 0x20BD8EDE, 0x30E349B1, 0x417B1DBC, 0x5125DAD3, 0x61C69362, 0x7198540D, 0x82F63B78, 0x92A8FC17, 0xA24BB5A6, 0xB21572C9, 0xC38D26C4, 0xD3D3E1AB, 0xE330A81A, 0xF36E6F75]
theorem tab_ok : ∀ r, r < 16 → TAB[r]? = some (four r) := by decide +kernel
theorem split16 (c : Nat) : c = (16 * (c / 16)) ^^^ (c % 16) := by
  apply Nat.eq_of_testBit_eq; intro i
  rw [Nat.testBit_xor]
  have h1 : (16 * (c / 16)).testBit i = (decide (4 ≤ i) && c.testBit i) := by
    have e : 16 * (c / 16) = (c / 2 ^ 4) * 2 ^ 4 := by omega
    rw [e, Nat.testBit_mul_two_pow, Nat.testBit_div_two_pow]
    by_cases hi : 4 ≤ i
    · rw [show i - 4 + 4 = i by omega]
    · simp [hi]
  have h2 : (c % 16).testBit i = (decide (i < 4) && c.testBit i) := by
    rw [show (16 : Nat) = 2 ^ 4 from rfl, Nat.testBit_mod_two_pow]
  rw [h1, h2]
  by_cases hi : 4 ≤ i
  · simp [hi, show ¬ i < 4 by omega]
  · simp [hi, show i < 4 by omega]
theorem four_eq (c : Nat) : (c / 2 ^ 4) ^^^ four (c % 16) = four c := by
  conv => rhs; rw [split16 c]
  unfold four
  rw [sumBit_xor, show 16 * (c / 16) = 2 * (2 * (2 * (2 * (c / 16)))) by omega, sumBit_even, sumBit_xor, sumBit_even, sumBit_xor, sumBit_even, sumBit_xor, sumBit_even]
theorem sumByte_four (c x : Nat) : sumByte c x = four (four (c ^^^ x)) := rfl
/-! ### bytes -/
theorem little_len (k n : Nat) : (little k n).length = k := by unfold little; simp
theorem little_lt {k n x : Nat} (h : x ∈ little k n) : x < 256 := by
  unfold little at h
  obtain ⟨i, _, e⟩ := List.mem_map.mp h
  rw [← e]
  exact Nat.mod_lt _ (by omega)
theorem pow256 (i : Nat) : (256 : Nat) ^ i = 2 ^ (8 * i) := by
  rw [Nat.pow_mul]
theorem number_foldl (b : Bytes) : number b = b.reverse.foldl (fun n x => n * 256 + x) 0 := by
  unfold number
  rw [List.foldl_reverse]
  congr 1
  funext x n
  omega
theorem ascii_head : ascii "TALLYDSK" = [84, 65, 76, 76, 89, 68, 83, 75] := by decide +kernel
theorem ascii_txn : ascii "TALLYTXN" = [84, 65, 76, 76, 89, 84, 88, 78] := by decide +kernel
def headData (h : Head) : Bytes := filled 500 (ascii "TALLYDSK" ++ (little 8 h.gen ++ (little 4 h.n ++ (little 4 h.j ++ (little 8 h.next ++ little 4 h.place)))))
theorem head_bytes (h : Head) : h.bytes = headData h ++ (little 4 (sum (headData h)) ++ little 8 h.gen) := rfl
theorem filled_len {n : Nat} {b : Bytes} (h : b.length ≤ n) : (filled n b).length = n := by
  unfold filled zeros
  rw [List.length_append, List.length_replicate]; omega
theorem headData_len (h : Head) : (headData h).length = 500 := by
  refine filled_len ?_
  simp [little_len, ascii_head]
theorem head_len (h : Head) : h.bytes.length = 512 := by
  rw [head_bytes, List.length_append, List.length_append, headData_len, little_len, little_len]
/-! ### a transaction in the journal, as the program looks for it -/
def homesOk (l : List Nat) (h : Int) : Bool := decide (1 ≤ l.length) && (decide (l.length ≤ 30) && (decide l.Nodup && l.all fun x => decide ((x : Int) < h)))
def jb (jm : List Bytes) (p i : Nat) : Bytes := jm.getD ((p + i) % jm.length) []
def lies (jm : List Bytes) (p k : Nat) : Txn := (List.range k).map fun i => (number (part (jb jm p 0) (24 + 16 * i) 4), (jb jm p (i + 1)).take 504 ++ part (jb jm p 0) (32 + 16 * i) 8)
def cnt (jm : List Bytes) (p : Nat) : Nat := number (part (jb jm p 0) 16 4)
def txnOn (jm : List Bytes) (h : Int) (s p : Nat) : Option Txn := if number (part (jb jm p 0) 8 8) ≠ s ∨ jm.length < cnt jm p + 1 then none else
  if homesOk ((lies jm p (cnt jm p)).map (·.1)) h = true ∧ pieces s (lies jm p (cnt jm p)) = (List.range (cnt jm p + 1)).map (jb jm p) then some (lies jm p (cnt jm p)) else none
theorem lies_len (jm : List Bytes) (p k : Nat) : (lies jm p k).length = k := by simp [lies]
theorem lies_succ (jm : List Bytes) (p k : Nat) : lies jm p (k + 1) = lies jm p k ++ [(number (part (jb jm p 0) (24 + 16 * k) 4), (jb jm p (k + 1)).take 504 ++ part (jb jm p 0) (32 + 16 * k) 8)] := by
  unfold lies
  rw [List.range_succ, List.map_append]; rfl
theorem part_le (b : Bytes) (i n : Nat) : (part b i n).length ≤ n := by unfold part; rw [List.length_take]; omega
theorem lies_small {jm : List Bytes} {p k : Nat} : ∀ x ∈ lies jm p k, x.2.length ≤ 1000 := by
  intro x h
  unfold lies at h
  obtain ⟨i, _, e⟩ := List.mem_map.mp h
  subst e
  have := part_le (jb jm p 0) (32 + 16 * i) 8
  simp only [List.length_append, List.length_take]
  omega
theorem homesOk_len {l : List Nat} {h : Int} (e : homesOk l h = true) : 1 ≤ l.length ∧ l.length ≤ 30 := by
  unfold homesOk at e
  simp only [Bool.and_eq_true, decide_eq_true_eq] at e
  exact ⟨e.1, e.2.1⟩
theorem little_number {k n : Nat} : number (little k n) = n % 256 ^ k := by
  have h : ∀ k i, ((List.range' i k).map fun q => n / 256 ^ q % 256).foldr (fun (x m : Nat) => x + 256 * m) 0 = n / 256 ^ i % 256 ^ k := by
    intro k
    induction k with
    | zero => intro i; simp [Nat.mod_one]
    | succ k ih =>
      intro i
      rw [List.range'_succ, List.map_cons, List.foldr_cons, ih (i + 1), Nat.pow_succ, Nat.pow_succ, ← Nat.div_div_eq_div_mul, Nat.mul_comm (256 ^ k) 256, Nat.mod_mul]
  have e := h k 0
  unfold number little
  rw [List.range_eq_range']
  simpa using e
theorem apart_iff : ∀ l : List Nat, apart l = decide l.Nodup
  | [] => by simp [apart]
  | x :: l => by
    rw [apart, apart_iff l]
    by_cases h : x ∈ l
    · simp [h]
    · simp [h]
theorem part_app (a b : Bytes) (i n : Nat) (h : i + n ≤ a.length) : part (a ++ b) i n = part a i n := by
  unfold part
  rw [List.drop_append_of_le_length (by omega), List.take_append_of_le_length (by simp; omega)]
theorem desc_number (s : Nat) (t : Txn) (h : s < 2 ^ 64) : number (part (descriptor s t) 8 8) = s := by
  have e : descriptor s t = (ascii "TALLYTXN" ++ little 8 s) ++ (((little 4 t.length ++ (zeros 4 ++ t.flatMap fun x => little 4 x.1 ++ (little 4 (sum x.2) ++ x.2.drop 504))) ++ zeros (504 - (ascii "TALLYTXN" ++ (little 8 s ++ (little 4 t.length ++ (zeros 4 ++ t.flatMap fun x => little 4 x.1 ++ (little 4 (sum x.2) ++ x.2.drop 504))))).length)) ++ little 8 s) := by
    unfold descriptor filled
    simp only [List.append_assoc]
  rw [e, part_app _ _ _ _ (by rw [ascii_txn]; simp [little_len])]
  have e2 : part (ascii "TALLYTXN" ++ little 8 s) 8 8 = little 8 s := by
    unfold part
    rw [List.drop_append_of_le_length (by rw [ascii_txn]; decide), ascii_txn]
    simp [little_len, List.take_of_length_le]
  rw [e2, little_number, Nat.mod_eq_of_lt (by simpa using h)]
theorem getD_drop_take (m : List Bytes) (i k j : Nat) (h : k < j) (hj : i + j ≤ m.length) : ((m.drop i).take j).getD k [] = m.getD (i + k) [] := by
  rw [List.getD_eq_getElem?_getD, List.getD_eq_getElem?_getD, List.getElem?_take_of_lt h, List.getElem?_drop]
def Blocks (m : List Bytes) : Prop := ∀ b ∈ m, isBlock b = true
theorem isBlock_iff (b : Bytes) : isBlock b = true ↔ b.length = 512 ∧ ∀ x ∈ b, x < 256 := by unfold isBlock SIZE; simp
theorem blk_get {m : List Bytes} (h : Blocks m) {i : Nat} (hi : i < m.length) : isBlock (m.getD i []) = true := by
  rw [List.getD_eq_getElem?_getD, List.getElem?_eq_getElem hi]
  exact h _ (List.getElem_mem hi)
theorem part_mem {b : Bytes} {i n x : Nat} (h : x ∈ part b i n) : x ∈ b := List.mem_of_mem_drop (List.mem_of_mem_take h)
theorem all_eq {α : Type} {f g : α → Bool} : ∀ {l : List α}, (∀ x ∈ l, f x = g x) → l.all f = l.all g
  | [], _ => rfl
  | x :: l, h => by rw [List.all_cons, List.all_cons, h x (by simp), all_eq fun y m => h y (by simp [m])]
/-- the specification's look and the program's are one -/
theorem txnAt_eq {m : List Bytes} {j s p : Nat} (hb : Blocks m) (hj : j + 3 ≤ m.length) (hp : p < j) (hs : s < 2 ^ 64) : txnAt m j s p = txnOn ((m.drop 2).take j) ((m.length : Int) - j - 2) s p := by
  have jl : ((m.drop 2).take j).length = j := by simp; omega
  have hjb : ∀ i, jb ((m.drop 2).take j) p i = m.getD (spot j p i) [] := fun i => by
    unfold jb spot
    rw [jl, getD_drop_take _ _ _ _ (Nat.mod_lt _ (by omega)) (by omega)]
  have hblk : ∀ i, isBlock (m.getD (spot j p i) []) = true := fun i => blk_get hb (by unfold spot; have := Nat.mod_lt (p + i) (show 0 < j by omega); omega)
  have hlies : ∀ k, lies ((m.drop 2).take j) p k = (List.range k).map fun (i : Nat) => (number (part (m.getD (spot j p 0) []) (24 + 16 * i) 4), (m.getD (spot j p (i + 1)) []).take 504 ++ part (m.getD (spot j p 0) []) (32 + 16 * i) 8) := fun k => by
    unfold lies
    simp only [hjb]
  have hjbf : jb ((m.drop 2).take j) p = fun i => m.getD (spot j p i) [] := funext hjb
  unfold txnAt txnOn cnt
  rw [jl]
  simp only [hlies, hjbf]
  generalize hk : number (part (m.getD (spot j p 0) []) 16 4) = k
  generalize ht : ((List.range k).map fun (i : Nat) => (number (part (m.getD (spot j p 0) []) (24 + 16 * i) 4), (m.getD (spot j p (i + 1)) []).take 504 ++ part (m.getD (spot j p 0) []) (32 + 16 * i) 8)) = t
  have tl : t.length = k := by rw [← ht]; simp
  have hok : k ≤ 30 → txnOk (homes m.length j) t = homesOk (t.map (·.1)) ((m.length : Int) - j - 2) := fun h30 => by
    have hall : (t.all fun (x : Nat × Bytes) => decide (x.1 < homes m.length j) && isBlock x.2) = (t.map (·.1)).all fun (x : Nat) => decide ((x : Int) < (m.length : Int) - j - 2) := by
      rw [List.all_map]
      refine all_eq fun x hx => ?_
      have hblkx : isBlock x.2 = true := by
        rw [← ht] at hx
        obtain ⟨i, hi, e⟩ := List.mem_map.mp hx
        have hi2 := List.mem_range.mp hi
        have b0 := (isBlock_iff _).mp (hblk 0)
        have b1 := (isBlock_iff _).mp (hblk (i + 1))
        rw [← e, isBlock_iff]
        refine ⟨?_, fun y hy => ?_⟩
        · unfold part
          rw [List.length_append, List.length_take, List.length_take, List.length_drop, b0.1, b1.1]
          omega
        · rcases List.mem_append.mp hy with q | q
          · exact b1.2 y (List.mem_of_mem_take q)
          · exact b0.2 y (part_mem q)
      show (decide (x.1 < homes m.length j) && isBlock x.2) = decide ((x.1 : Int) < (m.length : Int) - j - 2)
      rw [hblkx, Bool.and_true]
      exact decide_eq_decide.mpr (by unfold homes; omega)
    unfold txnOk homesOk
    rw [List.length_map, apart_iff, hall, Bool.and_comm (List.all _ _)]
    rfl
  by_cases h1 : k = 0 ∨ MOST < k ∨ j < k + 1
  · rw [if_pos h1]
    by_cases h2 : number (part (m.getD (spot j p 0) []) 8 8) ≠ s ∨ j < k + 1
    · rw [if_pos h2]
    · rw [if_neg h2, if_neg]
      intro z
      have := homesOk_len z.1
      rw [List.length_map, tl] at this
      unfold MOST at h1
      omega
  · rw [if_neg h1]
    have h30 : k ≤ 30 := by unfold MOST at h1; omega
    by_cases h2 : number (part (m.getD (spot j p 0) []) 8 8) ≠ s ∨ j < k + 1
    · rw [if_pos h2, if_neg]
      intro z
      have hn : number (part (m.getD (spot j p 0) []) 8 8) ≠ s := by omega
      have e := congrArg (fun l => l.getD 0 []) z.2
      have e2 : ((List.range (k + 1)).map fun i => m.getD (spot j p i) []).getD 0 [] = m.getD (spot j p 0) [] := by simp [List.getD_eq_getElem?_getD]
      rw [e2] at e
      rw [e] at hn
      exact hn (desc_number s t hs)
    · rw [if_neg h2, hok h30]
      by_cases h3 : homesOk (t.map (·.1)) ((m.length : Int) - j - 2) = true ∧ pieces s t = (List.range (k + 1)).map fun i => m.getD (spot j p i) []
      · rw [if_pos h3, if_pos ⟨h3.1, h3.2.symm⟩]
      · rw [if_neg h3, if_neg fun z => h3 ⟨z.1, z.2.symm⟩]
/-! ### the head that counts -/
structure HeadOk (m : List Bytes) (h : Head) : Prop where
  n : h.n = m.length
  sh : shapeOk h.n h.j = true
  pl : h.place < h.j
  g : h.gen < HIGH
  x : h.next < HIGH
theorem headAt_ok {m : List Bytes} {i : Nat} {h : Head} (e : headAt m i = some h) : h.gen % 2 = i ∧ HeadOk m h := by
  unfold headAt at e
  dsimp only at e
  split at e
  · rename_i c
    cases e
    exact ⟨c.1, c.2.1, c.2.2.1, c.2.2.2.1, c.2.2.2.2.1, c.2.2.2.2.2.1⟩
  · cases e
theorem shape_iff (n j : Nat) : shapeOk n j = true ↔ 8 ≤ n ∧ n ≤ 4096 ∧ 4 ≤ j ∧ j + 3 ≤ n := by unfold shapeOk LARGE; simp
theorem best_nil : best [] = none := by
  have h : ∀ i, headAt [] i = none := fun i => by
    cases e : headAt [] i with
    | none => rfl
    | some h =>
      have k := (headAt_ok e).2
      have := (shape_iff _ _).mp k.sh
      have := k.n
      simp at this
      omega
  unfold best
  rw [h 0, h 1]
theorem best_ok {m : List Bytes} {h : Head} (e : best m = some h) : HeadOk m h := by
  unfold best at e
  cases e0 : headAt m 0 with
  | none =>
    rw [e0] at e
    cases e1 : headAt m 1 with
    | none => rw [e1] at e; cases e
    | some y => rw [e1] at e; cases e; exact (headAt_ok e1).2
  | some x =>
    rw [e0] at e
    cases e1 : headAt m 1 with
    | none => rw [e1] at e; cases e; exact (headAt_ok e0).2
    | some y =>
      rw [e1] at e
      dsimp only at e
      split at e
      · cases e; exact (headAt_ok e1).2
      · cases e; exact (headAt_ok e0).2
/-- a medium: no blocks or as many as a disk may have -/
structure Mok (m : List Bytes) : Prop where
  len : m = [] ∨ 8 ≤ m.length
  most : m.length ≤ 4096
  blk : Blocks m
theorem txnAt_good {m : List Bytes} {j s p : Nat} {t : Txn} (e : txnAt m j s p = some t) : txnOk (homes m.length j) t = true := by
  unfold txnAt at e
  dsimp only at e
  split at e
  · cases e
  · split at e
    · rename_i c
      cases e
      exact c.1
    · cases e
theorem txnOk_iff (h : Nat) (t : Txn) : txnOk h t = true ↔ 1 ≤ t.length ∧ t.length ≤ 30 ∧ (∀ z ∈ t, z.1 < h ∧ isBlock z.2 = true) ∧ (t.map (·.1)).Nodup := by
  unfold txnOk MOST
  rw [apart_iff]
  simp
theorem isBlock_ne {b : Bytes} (h : isBlock b = true) : b ≠ [] := fun e => by
  have := ((isBlock_iff b).mp h).1
  rw [e] at this
  simp at this
/-! ### homes' newest blocks: by their coming, by their numbers -/
def pput {β : Type} (l : List (Nat × β)) (k : Nat) (v : β) : List (Nat × β) := if (l.any fun x => decide (x.1 = k)) = true then l.map (fun x => if x.1 = k then (k, v) else x) else l ++ [(k, v)]
abbrev Sorted (l : List (Nat × Bytes)) : Prop := l.Pairwise fun x y => x.1 < y.1
theorem put_mem {k : Nat} {b : Bytes} : ∀ {l : List (Nat × Bytes)} {x}, x ∈ put l k b → x = (k, b) ∨ x ∈ l
  | [], x, h => by simp [put] at h; exact .inl h
  | y :: r, x, h => by
    unfold put at h
    split at h
    · rcases List.mem_cons.mp h with e | e
      · exact .inl e
      · exact .inr e
    · split at h
      · rcases List.mem_cons.mp h with e | e
        · exact .inl e
        · exact .inr (List.mem_cons_of_mem _ e)
      · rcases List.mem_cons.mp h with e | e
        · exact .inr (by rw [e]; simp)
        · rcases put_mem e with z | z
          · exact .inl z
          · exact .inr (List.mem_cons_of_mem _ z)
theorem put_sorted {k : Nat} {b : Bytes} : ∀ {l : List (Nat × Bytes)}, Sorted l → Sorted (put l k b)
  | [], _ => by simp [put, Sorted]
  | y :: r, h => by
    obtain ⟨h1, h2⟩ := List.pairwise_cons.mp h
    unfold put
    split
    · rename_i c
      exact List.pairwise_cons.mpr ⟨fun z hz => (List.mem_cons.mp hz).elim (fun e => by rw [e]; exact c) fun m => Nat.lt_trans c (h1 z m), h⟩
    · split
      · rename_i c
        exact List.pairwise_cons.mpr ⟨fun z hz => by rw [c]; exact h1 z hz, h2⟩
      · refine List.pairwise_cons.mpr ⟨fun z hz => ?_, put_sorted h2⟩
        rcases put_mem hz with e | e
        · rw [e]; show y.1 < k; omega
        · exact h1 z e
theorem put_in {k : Nat} {b : Bytes} : ∀ {l : List (Nat × Bytes)}, Sorted l → (l.any fun x => decide (x.1 = k)) = true → put l k b = l.map (fun x => if x.1 = k then (k, b) else x)
  | [], _, h => by simp at h
  | y :: r, hs, h => by
    obtain ⟨h1, h2⟩ := List.pairwise_cons.mp hs
    unfold put
    by_cases c1 : k < y.1
    · exfalso
      obtain ⟨z, hz, ez⟩ := List.any_eq_true.mp h
      have ez := of_decide_eq_true ez
      rcases List.mem_cons.mp hz with e | e
      · rw [e] at ez; omega
      · have := h1 z e; omega
    · rw [if_neg c1]
      by_cases c2 : k = y.1
      · rw [if_pos c2, List.map_cons, if_pos c2.symm]
        congr 1
        refine (List.map_id r).symm.trans (List.map_congr_left fun z hz => ?_)
        have := h1 z hz
        rw [if_neg (by omega)]; rfl
      · rw [if_neg c2, List.map_cons, if_neg (fun e => c2 e.symm), put_in h2]
        rw [List.any_cons, decide_eq_false (fun e => c2 e.symm), Bool.false_or] at h
        exact h
theorem put_out {k : Nat} {b : Bytes} : ∀ {l : List (Nat × Bytes)}, (l.any fun x => decide (x.1 = k)) = false → (put l k b).Perm ((k, b) :: l)
  | [], _ => by simp [put]
  | y :: r, h => by
    rw [List.any_cons, Bool.or_eq_false_iff] at h
    have hy := of_decide_eq_false h.1
    unfold put
    split
    · exact List.Perm.refl _
    · rw [if_neg (fun e => hy e.symm)]
      exact ((put_out h.2).cons y).trans (List.Perm.swap _ _ _)
theorem pput_perm {m l : List (Nat × Bytes)} {k : Nat} {b : Bytes} (h : m.Perm l) (hs : Sorted l) : (pput m k b).Perm (put l k b) := by
  have ea : (m.any fun x => decide (x.1 = k)) = l.any fun x => decide (x.1 = k) := by
    rw [Bool.eq_iff_iff, List.any_eq_true, List.any_eq_true]
    exact ⟨fun ⟨x, hx, e⟩ => ⟨x, h.mem_iff.mp hx, e⟩, fun ⟨x, hx, e⟩ => ⟨x, h.mem_iff.mpr hx, e⟩⟩
  unfold pput
  cases c : l.any fun x => decide (x.1 = k) with
  | true =>
    rw [if_pos (ea.trans c), put_in hs c]
    exact h.map _
  | false =>
    rw [if_neg (by rw [ea, c]; decide)]
    exact (List.perm_append_comm.trans (h.cons (k, b))).trans (put_out c).symm
theorem sorted_nodup {l : List (Nat × Bytes)} (h : Sorted l) : (l.map (·.1)).Nodup := List.pairwise_map.mpr (h.imp fun c e => by omega)
theorem find_perm {m l : List (Nat × Bytes)} {k : Nat} (h : m.Perm l) (hs : Sorted l) : (m.find? fun x => x.1 == k) = l.find? fun x => x.1 == k := by
  have uniq : ∀ x y, x ∈ l → y ∈ l → x.1 = y.1 → x = y := fun x y hx hy e => by
    obtain ⟨i, hi, ei⟩ := List.mem_iff_getElem.mp hx
    obtain ⟨j, hj, ej⟩ := List.mem_iff_getElem.mp hy
    have := List.pairwise_iff_getElem.mp hs
    rcases Nat.lt_trichotomy i j with c | c | c
    · have := this i j hi hj c; rw [ei, ej] at this; omega
    · subst c; rw [← ei, ← ej]
    · have := this j i hj hi c; rw [ei, ej] at this; omega
  cases e : l.find? fun x => x.1 == k with
  | none =>
    rw [List.find?_eq_none] at e ⊢
    exact fun x hx => e x (h.mem_iff.mp hx)
  | some x =>
    have hx := List.mem_of_find?_eq_some e
    have kx := List.find?_some e
    cases e2 : m.find? fun x => x.1 == k with
    | none =>
      rw [List.find?_eq_none] at e2
      exact absurd kx (e2 x (h.mem_iff.mpr hx))
    | some y =>
      have hy := h.mem_iff.mp (List.mem_of_find?_eq_some e2)
      have ky := List.find?_some e2
      rw [uniq x y hx hy (by simp at kx ky; omega)]
theorem sorted_keys {l : List (Nat × Bytes)} (h : Sorted l) {ys : List Int} (hp : ys.Perm (l.map fun x => (x.1 : Int))) (hy : ys.Pairwise (· ≤ ·)) : ys = l.map fun x => (x.1 : Int) := by
  refine List.Perm.eq_of_pairwise (le := (· ≤ ·)) (fun a b _ _ h1 h2 => Int.le_antisymm h1 h2) hy ?_ hp
  exact List.pairwise_map.mpr (h.imp fun c => by omega)
theorem putAll_sorted : ∀ {t : Txn} {l : List (Nat × Bytes)}, Sorted l → Sorted (putAll l t)
  | [], _, h => h
  | x :: t, l, h => putAll_sorted (t := t) (put_sorted h)
theorem putAll_mem : ∀ {t : Txn} {l : List (Nat × Bytes)} {x}, x ∈ putAll l t → x ∈ t ∨ x ∈ l
  | [], _, _, h => .inr h
  | y :: t, l, x, h => by
    rcases putAll_mem (t := t) (l := put l y.1 y.2) h with e | e
    · exact .inl (List.mem_cons_of_mem _ e)
    · rcases put_mem e with z | z
      · exact .inl (by rw [z]; simp)
      · exact .inr z
theorem all_eq_any {α : Type} {f g : α → Bool} : ∀ {l : List α}, (∀ x ∈ l, f x = g x) → l.any f = l.any g
  | [], _ => rfl
  | x :: l, h => by rw [List.any_cons, List.any_cons, h x (by simp), all_eq_any fun y m => h y (by simp [m])]
theorem find_uniq {l : List (Nat × Bytes)} (h : Sorted l) {x y : Nat × Bytes} (hx : x ∈ l) (hy : y ∈ l) (e : x.1 = y.1) : y = x := by
  obtain ⟨i, hi, ei⟩ := List.mem_iff_getElem.mp hx
  obtain ⟨j, hj, ej⟩ := List.mem_iff_getElem.mp hy
  have := List.pairwise_iff_getElem.mp h
  rcases Nat.lt_trichotomy i j with c | c | c
  · have := this i j hi hj c; rw [ei, ej] at this; omega
  · subst c; rw [← ei, ← ej]
  · have := this j i hj hi c; rw [ei, ej] at this; omega
theorem sorted_len2 {n : Nat} : ∀ {l : List (Nat × Bytes)} {lo : Nat}, Sorted l → (∀ x ∈ l, lo ≤ x.1 ∧ x.1 < n) → l.length ≤ n - lo
  | [], _, _, _ => by simp
  | y :: r, lo, h, hb => by
    obtain ⟨h1, h2⟩ := List.pairwise_cons.mp h
    have hy := hb y (by simp)
    have ih := sorted_len2 (lo := y.1 + 1) h2 (fun x hx => ⟨h1 x hx, (hb x (by simp [hx])).2⟩)
    rw [List.length_cons]
    omega
theorem sorted_len {l : List (Nat × Bytes)} (h : Sorted l) {n : Nat} (hn : ∀ x ∈ l, x.1 < n) : l.length ≤ n := by
  have := sorted_len2 (lo := 0) h (fun x hx => ⟨Nat.zero_le _, hn x hx⟩)
  omega
end Dm
namespace Dk
open PySem PySem.Spec PyProof.Rows L2
/-! ### lists beside each other -/
def Al {α β : Type} (R : α → β → Prop) : List α → List β → Prop
  | [], [] => True
  | x :: xs, y :: ys => R x y ∧ Al R xs ys
  | _, _ => False
section
variable {α β : Type} {R S : α → β → Prop}
theorem Al.len : ∀ {xs : List α} {ys : List β}, Al R xs ys → xs.length = ys.length
  | [], [], _ => rfl
  | _ :: _, _ :: _, h => congrArg (· + 1) (Al.len h.2)
  | [], _ :: _, h => h.elim
  | _ :: _, [], h => h.elim
theorem Al.imp (f : ∀ x y, R x y → S x y) : ∀ {xs : List α} {ys : List β}, Al R xs ys → Al S xs ys
  | [], [], _ => trivial
  | _ :: _, _ :: _, h => ⟨f _ _ h.1, Al.imp f h.2⟩
  | [], _ :: _, h => h.elim
  | _ :: _, [], h => h.elim
theorem Al.get : ∀ {xs : List α} {ys : List β} {i : Nat} {x : α}, Al R xs ys → xs[i]? = some x → ∃ y, ys[i]? = some y ∧ R x y
  | x :: _, y :: _, 0, z, h, e => ⟨y, rfl, by cases (Option.some.inj e : x = z); exact h.1⟩
  | _ :: xs, _ :: ys, i + 1, _, h, e => Al.get (xs := xs) (ys := ys) (i := i) h.2 e
  | [], _, _, _, _, e => by simp at e
  | _ :: _, [], _, _, h, _ => h.elim
theorem Al.get2 : ∀ {xs : List α} {ys : List β} {i : Nat} {y : β}, Al R xs ys → ys[i]? = some y → ∃ x, xs[i]? = some x ∧ R x y
  | x :: _, y :: _, 0, z, h, e => ⟨x, rfl, by cases (Option.some.inj e : y = z); exact h.1⟩
  | _ :: xs, _ :: ys, i + 1, _, h, e => Al.get2 (xs := xs) (ys := ys) (i := i) h.2 e
  | _, [], _, _, _, e => by simp at e
  | [], _ :: _, _, _, h, _ => h.elim
theorem Al.app : ∀ {xs xs2 : List α} {ys ys2 : List β}, Al R xs ys → Al R xs2 ys2 → Al R (xs ++ xs2) (ys ++ ys2)
  | [], _, [], _, _, k => k
  | _ :: xs, _, _ :: ys, _, h, k => ⟨h.1, Al.app (xs := xs) (ys := ys) h.2 k⟩
  | [], _, _ :: _, _, h, _ => h.elim
  | _ :: _, _, [], _, h, _ => h.elim
theorem Al.snoc {xs : List α} {ys : List β} {x : α} {y : β} (h : Al R xs ys) (k : R x y) : Al R (xs ++ [x]) (ys ++ [y]) := h.app ⟨k, trivial⟩
theorem Al.set : ∀ {xs : List α} {ys : List β} (i : Nat) {x : α} {y : β}, Al R xs ys → R x y → Al R (xs.set i x) (ys.set i y)
  | [], [], _, _, _, h, _ => h
  | _ :: _, _ :: _, 0, _, _, h, k => ⟨k, h.2⟩
  | _ :: xs, _ :: ys, i + 1, _, _, h, k => ⟨h.1, Al.set (xs := xs) (ys := ys) i h.2 k⟩
  | [], _ :: _, _, _, _, h, _ => h.elim
  | _ :: _, [], _, _, _, h, _ => h.elim
theorem Al.drop : ∀ {xs : List α} {ys : List β} (i : Nat), Al R xs ys → Al R (xs.drop i) (ys.drop i)
  | _, _, 0, h => by simpa using h
  | [], [], _ + 1, h => h
  | _ :: xs, _ :: ys, i + 1, h => Al.drop (xs := xs) (ys := ys) i h.2
  | [], _ :: _, _ + 1, h => h.elim
  | _ :: _, [], _ + 1, h => h.elim
theorem Al.take : ∀ {xs : List α} {ys : List β} (i : Nat), Al R xs ys → Al R (xs.take i) (ys.take i)
  | _, _, 0, _ => by simp [Al]
  | [], [], _ + 1, h => h
  | _ :: xs, _ :: ys, i + 1, h => ⟨h.1, Al.take (xs := xs) (ys := ys) i h.2⟩
  | [], _ :: _, _ + 1, h => h.elim
  | _ :: _, [], _ + 1, h => h.elim
theorem Al.of_map {γ : Type} {f : γ → α} {g : γ → β} : ∀ {l : List γ}, (∀ z ∈ l, R (f z) (g z)) → Al R (l.map f) (l.map g)
  | [], _ => trivial
  | z :: l, h => ⟨h z (by simp), Al.of_map fun y m => h y (by simp [m])⟩
theorem Al.rep {x : α} {y : β} (k : R x y) : ∀ n, Al R (List.replicate n x) (List.replicate n y)
  | 0 => trivial
  | n + 1 => ⟨k, Al.rep k n⟩
end
/-! ### what stands in the heap -/
/-- numbers as Python's ints -/
def il (b : List Nat) : List V := b.map fun (n : Nat) => V.int (n : Int)
theorem il_len (b : List Nat) : (il b).length = b.length := by simp [il]
theorem il_app (b c : List Nat) : il (b ++ c) = il b ++ il c := by simp [il]
theorem il_get {b : List Nat} {i n : Nat} (h : b[i]? = some n) : (il b)[i]? = some (V.int n) := by simp [il, h]
theorem il_map (b : List Nat) : il b = (b.map fun (n : Nat) => (n : Int)).map V.int := by simp [il]
theorem il_inj {b c : List Nat} (h : il b = il c) : b = c := by
  have e : ∀ x y : Nat, V.int (x : Int) = V.int (y : Int) → x = y := fun x y h => by have := V.int.inj h; omega
  induction b generalizing c with
  | nil => cases c with
    | nil => rfl
    | cons y c => simp [il] at h
  | cons x b ih => cases c with
    | nil => simp [il] at h
    | cons y c =>
      have h2 : V.int (x : Int) :: il b = V.int (y : Int) :: il c := h
      rw [e x y (List.cons.inj h2).1, ih (List.cons.inj h2).2]
/-- a list of numbers -/
def LB (H : Hp) (p : Addr) (b : List Nat) : Prop := H p = some (.lst (il b))
theorem LB.mono {H H' : Hp} {p : Addr} {b : List Nat} (s : Same H H') (h : LB H p b) : LB H' p b := s _ _ h
theorem LB.sq {K : PySem.W.Frag} {H : Hp} {p : Addr} {b : List Nat} (h : LB H p b) : SqL K H p (il b) := .of h
/-- a list of lists of numbers -/
def LBs (H : Hp) (p : Addr) (m : List (List Nat)) : Prop := ∃ as : List Addr, H p = some (.lst (as.map V.ref)) ∧ Al (LB H) as m
theorem LBs.mono {H H' : Hp} {p : Addr} {m : List (List Nat)} (s : Same H H') (h : LBs H p m) : LBs H' p m := h.elim fun as e => ⟨as, s _ _ e.1, e.2.imp fun _ _ k => k.mono s⟩
/-- the items of a slice -/
theorem cut_nat (xs : List V) (i j : Nat) : cutV xs (some (i : Int)) (some (j : Int)) = (xs.drop i).take (j - i) := by
  unfold cutV
  rw [HT.sIx_nat, HT.sIx_nat]
  by_cases h : i ≤ xs.length
  · rw [Nat.min_eq_left h]
    by_cases h2 : j ≤ xs.length
    · rw [Nat.min_eq_left h2]
    · rw [Nat.min_eq_right (by omega), List.take_of_length_le (by simp), List.take_of_length_le (by simp; omega)]
  · have e : min i xs.length = xs.length := by omega
    rw [e, List.drop_of_length_le (Nat.le_refl _), List.drop_of_length_le (show xs.length ≤ i by omega)]; simp
theorem cut_to (xs : List V) (j : Nat) : cutV xs none (some (j : Int)) = xs.take j := by
  unfold cutV
  rw [HT.sIx_nat, HT.sIx_none, Nat.sub_zero, List.drop_zero]
  by_cases h2 : j ≤ xs.length
  · rw [Nat.min_eq_left h2]
  · rw [Nat.min_eq_right (by omega), List.take_of_length_le (Nat.le_refl _), List.take_of_length_le (by omega)]
theorem cut_from (xs : List V) (i : Nat) : cutV xs (some (i : Int)) none = xs.drop i := by
  unfold cutV
  rw [HT.sIx_nat, HT.sIx_none]
  by_cases h : i ≤ xs.length
  · rw [Nat.min_eq_left h, List.take_of_length_le (by simp)]
  · rw [Nat.min_eq_right (by omega), List.drop_of_length_le (Nat.le_refl _), List.drop_of_length_le (by omega)]; simp
theorem il_drop (b : List Nat) (i : Nat) : (il b).drop i = il (b.drop i) := by simp [il, List.map_drop]
theorem il_take (b : List Nat) (i : Nat) : (il b).take i = il (b.take i) := by simp [il, List.map_take]
theorem il_rep (n : Nat) : (List.replicate n [V.int 0]).flatten = il (Fm08.zeros n) := by
  induction n with
  | zero => rfl
  | succ n ih => rw [List.replicate_succ, List.flatten_cons, ih]; rfl
/-- a disk's shape, its head -/
def ShapeAt (a : Ad) (H : Hp) (p : Addr) (n j : Nat) : Prop := O_Shape a H p (.int n) (.int j) (.int ((n : Int) - j - 2))
def HeadAt (a : Ad) (H : Hp) (p : Addr) (h : Fm08.Head) : Prop := ∃ s, O_Head a H p (.int h.gen) (.ref s) (.int h.next) (.int h.place) ∧ ShapeAt a H s h.n h.j
theorem ShapeAt.mono {a : Ad} {H H' : Hp} {p : Addr} {n j : Nat} (s : Same H H') (h : ShapeAt a H p n j) : ShapeAt a H' p n j := O_Shape.mono s h
theorem HeadAt.mono {a : Ad} {H H' : Hp} {p : Addr} {h : Fm08.Head} (s : Same H H') (k : HeadAt a H p h) : HeadAt a H' p h := k.elim fun q e => ⟨q, e.1.mono s, e.2.mono s⟩
/-- a transaction: homes, blocks -/
def TxnAt (a : Ad) (H : Hp) (p : Addr) (t : Fm08.Txn) : Prop := ∃ hs bs, O_Transaction a H p (.ref hs) (.ref bs) ∧ LB H hs (t.map (·.1)) ∧ LBs H bs (t.map (·.2))
theorem TxnAt.mono {a : Ad} {H H' : Hp} {p : Addr} {t : Fm08.Txn} (s : Same H H') (k : TxnAt a H p t) : TxnAt a H' p t := by
  obtain ⟨hs, bs, h1, h2, h3⟩ := k
  exact ⟨hs, bs, h1.mono s, h2.mono s, h3.mono s⟩
def TxnsAt (a : Ad) (H : Hp) (p : Addr) (ts : List Fm08.Txn) : Prop := ∃ as : List Addr, H p = some (.lst (as.map V.ref)) ∧ Al (TxnAt a H) as ts
theorem TxnsAt.mono {a : Ad} {H H' : Hp} {p : Addr} {ts : List Fm08.Txn} (s : Same H H') (h : TxnsAt a H p ts) : TxnsAt a H' p ts := h.elim fun as e => ⟨as, s _ _ e.1, e.2.imp fun _ _ k => k.mono s⟩
/-! ### promises: the sum, the layout -/
section

def sp_sum_of (K : PySem.W.Frag) (a : Ad) : Sp := fun vs H Q _ => ∃ p b, vs = [.ref p] ∧ SqL K H p (il b) ∧ Q (.int (Fm08.sum b : Nat)) H
def sp_letters (K : PySem.W.Frag) (a : Ad) : Sp := fun vs H Q _ => ∃ w : Str, vs = [.str w] ∧ w.cps.size ≤ 1000 ∧ ∀ H' p, Same H H' → H p = none → LB H' p w.cps.toList → Q (.ref p) H'
def sp_number_bytes (K : PySem.W.Frag) (a : Ad) : Sp := fun vs H Q _ => ∃ v k : Nat, vs = [.int v, .int k] ∧ k ≤ 1000 ∧ ∀ H' p, Same H H' → H p = none → LB H' p (Fm08.little k v) → Q (.ref p) H'
def sp_number_at (K : PySem.W.Frag) (a : Ad) : Sp := fun vs H Q _ => ∃ p b, ∃ s k : Nat, vs = [.ref p, .int s, .int k] ∧ SqL K H p (il b) ∧ ∀ H', Same H H' → Q (.int (Fm08.number (Fm08.part b s k) : Nat)) H'
def sp_block_count_is_allowed (K : PySem.W.Frag) (a : Ad) : Sp := fun vs H Q _ => ∃ n : Int, vs = [.int n] ∧ Q (.bl (decide (8 ≤ n ∧ n ≤ 4096))) H
def sp_shape_is_allowed (K : PySem.W.Frag) (a : Ad) : Sp := fun vs H Q _ => ∃ n j : Int, vs = [.int n, .int j] ∧ Q (.bl (decide (0 ≤ n) && (decide (0 ≤ j) && Fm08.shapeOk n.toNat j.toNat))) H
end
end Dk
namespace Dk
open PySem PySem.Spec PyProof.Rows L2
/-! ### promises: the makings -/
def iniOf (C : Addr) (n : Nat) (Pre : List V → Hp → Prop) (Post : List V → Hp → Hp → Addr → Prop) : Sp := fun vs H Q _ => ∃ p dx ws, vs = V.ref p :: ws ∧ ws.length = n ∧ H p = some (.ins C dx []) ∧ Pre ws H ∧
  ∀ H', Post ws H H' p → Keep [p] H H' → Q .non H'
def sp_Shape_init (K : PySem.W.Frag) (a : Ad) : Sp := fun vs H Q _ => ∃ p dx, ∃ n j : Int, vs = [.ref p, .int n, .int j] ∧ H p = some (.ins a.c_Shape dx []) ∧ ∀ H', O_Shape a H' p (.int n) (.int j) (.int (n - j - 2)) → Keep [p] H H' → Q .non H'
def sp_Head_init (K : PySem.W.Frag) (a : Ad) : Sp := fun vs H Q _ => ∃ p dx v1 v2 v3 v4, vs = [.ref p, v1, v2, v3, v4] ∧ H p = some (.ins a.c_Head dx []) ∧ ∀ H', O_Head a H' p v1 v2 v3 v4 → Keep [p] H H' → Q .non H'
def sp_Transaction_init (K : PySem.W.Frag) (a : Ad) : Sp := fun vs H Q _ => ∃ p dx v1 v2, vs = [.ref p, v1, v2] ∧ H p = some (.ins a.c_Transaction dx []) ∧ ∀ H', O_Transaction a H' p v1 v2 → Keep [p] H H' → Q .non H'
def sp_Found_init (K : PySem.W.Frag) (a : Ad) : Sp := fun vs H Q _ => ∃ p dx v1 v2 v3, vs = [.ref p, v1, v2, v3] ∧ H p = some (.ins a.c_Found dx []) ∧ ∀ H', O_Found a H' p v1 v2 v3 → Keep [p] H H' → Q .non H'
def sp_Operation_init (K : PySem.W.Frag) (a : Ad) : Sp := fun vs H Q _ => ∃ p dx v1 v2 v3, vs = [.ref p, v1, v2, v3] ∧ H p = some (.ins a.c_Operation dx []) ∧ ∀ H', O_Operation a H' p v1 v2 v3 → Keep [p] H H' → Q .non H'
section
variable {K : PySem.W.Frag} {a : Ad} {H : Hp} {Q : VK} {E : XK}
theorem mk_Shape {n j : Int} (q : ∀ x H', Same H H' → H x = none → O_Shape a H' x (.int n) (.int j) (.int (n - j - 2)) → Q (.ref x) H') : makev a.c_Shape (sp_Shape_init K a) E [.int n, .int j] H Q :=
  fun x dx nx nd ne => ⟨x, dx, n, j, rfl, upd_same, fun H' o k => ⟨rfl, q x H' (made_same nx nd k) nx o⟩⟩
theorem mk_Head {v1 v2 v3 v4 : V} (q : ∀ x H', Same H H' → H x = none → O_Head a H' x v1 v2 v3 v4 → Q (.ref x) H') : makev a.c_Head (sp_Head_init K a) E [v1, v2, v3, v4] H Q :=
  fun x dx nx nd ne => ⟨x, dx, v1, v2, v3, v4, rfl, upd_same, fun H' o k => ⟨rfl, q x H' (made_same nx nd k) nx o⟩⟩
theorem mk_Transaction {v1 v2 : V} (q : ∀ x H', Same H H' → H x = none → O_Transaction a H' x v1 v2 → Q (.ref x) H') : makev a.c_Transaction (sp_Transaction_init K a) E [v1, v2] H Q :=
  fun x dx nx nd ne => ⟨x, dx, v1, v2, rfl, upd_same, fun H' o k => ⟨rfl, q x H' (made_same nx nd k) nx o⟩⟩
theorem mk_Found {v1 v2 v3 : V} (q : ∀ x H', Same H H' → H x = none → O_Found a H' x v1 v2 v3 → Q (.ref x) H') : makev a.c_Found (sp_Found_init K a) E [v1, v2, v3] H Q :=
  fun x dx nx nd ne => ⟨x, dx, v1, v2, v3, rfl, upd_same, fun H' o k => ⟨rfl, q x H' (made_same nx nd k) nx o⟩⟩
theorem mk_Operation {v1 v2 v3 : V} (q : ∀ x H', Same H H' → H x = none → O_Operation a H' x v1 v2 v3 → Q (.ref x) H') : makev a.c_Operation (sp_Operation_init K a) E [v1, v2, v3] H Q :=
  fun x dx nx nd ne => ⟨x, dx, v1, v2, v3, rfl, upd_same, fun H' o k => ⟨rfl, q x H' (made_same nx nd k) nx o⟩⟩
end
/-! ### promises: heads and transactions -/
def sp_head_block (K : PySem.W.Frag) (a : Ad) : Sp := fun vs H Q _ => ∃ p h, vs = [.ref p] ∧ HeadAt a H p h ∧ ∀ H' q, Same H H' → H q = none → LB H' q h.bytes → Q (.ref q) H'
def sp_head_in (K : PySem.W.Frag) (a : Ad) : Sp := fun vs H Q _ => ∃ (p : Addr) (i : Nat) (m : List (List Nat)), vs = [.ref p, .int i] ∧ LBs H p m ∧ i < m.length ∧ m.length ≤ sizeLine ∧
  (Fm08.headAt m i = none → ∀ H', Same H H' → Q .non H') ∧ (∀ h, Fm08.headAt m i = some h → ∀ H' q, Same H H' → H q = none → HeadAt a H' q h → Q (.ref q) H')
def sp_homes_are_allowed (K : PySem.W.Frag) (a : Ad) : Sp := fun vs H Q _ => ∃ (p : Addr) (l : List Nat) (h : Int), vs = [.ref p, .int h] ∧ SqL K H p (il l) ∧ l.length ≤ 5000 ∧
  Q (.bl (Dm.homesOk l h)) H
def sp_transaction_blocks (K : PySem.W.Frag) (a : Ad) : Sp := fun vs H Q _ => ∃ (s : Nat) (p : Addr) (t : Fm08.Txn), vs = [.int s, .ref p] ∧ TxnAt a H p t ∧ t.length ≤ 1000 ∧ (∀ x ∈ t, x.2.length ≤ 1000) ∧
  ∀ H' q, Same H H' → H q = none → LBs H' q (Fm08.pieces s t) → Q (.ref q) H'
def sp_transaction_at (K : PySem.W.Frag) (a : Ad) : Sp := fun vs H Q _ => ∃ (J : Addr) (jm : List (List Nat)) (p s : Nat) (hc : Int), vs = [.ref J, .int p, .int s, .int hc] ∧ LBs H J jm ∧ p < jm.length ∧ jm.length ≤ 5000 ∧ (∀ b ∈ jm, b.length ≤ 1000) ∧
  (Dm.txnOn jm hc s p = none → ∀ H', Same H H' → Q .non H') ∧ (∀ t, Dm.txnOn jm hc s p = some t → ∀ H' q, Same H H' → H q = none → TxnAt a H' q t → Q (.ref q) H')
/-! ### promises: what mending finds -/
def sp_counting_head (K : PySem.W.Frag) (a : Ad) : Sp := fun vs H Q _ => ∃ p m, vs = [.ref p] ∧ LBs H p m ∧ Dm.Mok m ∧ (Fm08.best m = none → ∀ H', Same H H' → Q .non H') ∧
  (∀ h, Fm08.best m = some h → ∀ H' q, Same H H' → HeadAt a H' q h → Q (.ref q) H')
def FoundAt (a : Ad) (H : Hp) (p : Addr) (h : Fm08.Head) (r : List Fm08.Txn × Nat) : Prop := ∃ hd tl, O_Found a H p (.ref hd) (.ref tl) (.int r.2) ∧ HeadAt a H hd h ∧ TxnsAt a H tl r.1
theorem FoundAt.mono {a : Ad} {H H' : Hp} {p : Addr} {h : Fm08.Head} {r : List Fm08.Txn × Nat} (s : Same H H') (k : FoundAt a H p h r) : FoundAt a H' p h r := by
  obtain ⟨hd, tl, h1, h2, h3⟩ := k
  exact ⟨hd, tl, h1.mono s, h2.mono s, h3.mono s⟩
def sp_found_on (K : PySem.W.Frag) (a : Ad) : Sp := fun vs H Q _ => ∃ p m, vs = [.ref p] ∧ LBs H p m ∧ Dm.Mok m ∧ (Fm08.best m = none → ∀ H', Same H H' → Q .non H') ∧
  (∀ h, Fm08.best m = some h → ∀ H' q, Same H H' → FoundAt a H' q h (Fm08.found m h.j h.j h.next h.place) → Q (.ref q) H')
end Dk
namespace Dk
open PySem PySem.Spec PyProof.Rows L2
/-! ### the medium: its object at p, its blocks' list at B, its writes' list at W -/
def WrAt (H : Hp) (t : Addr) (w : Fm08.Write) : Prop := ∃ x, H t = some (.tup [.int w.block, .ref x]) ∧ LB H x w.bytes
theorem WrAt.mono {H H' : Hp} {t : Addr} {w : Fm08.Write} (s : Same H H') (h : WrAt H t w) : WrAt H' t w := h.elim fun x e => ⟨x, s _ _ e.1, e.2.mono s⟩
structure MedAt (a : Ad) (H : Hp) (p B W : Addr) (m : List Fm08.Bytes) (way : List Fm08.Write) : Prop where
  o : O_Medium a H p (.ref B) (.ref W)
  b : ∃ as : List Addr, H B = some (.lst (as.map V.ref)) ∧ Al (LB H) as m
  w : ∃ ws : List Addr, H W = some (.lst (ws.map V.ref)) ∧ Al (WrAt H) ws way
  ne : W ≠ B
  blk : Dm.Blocks m
  in' : ∀ w ∈ way, w.block < m.length ∧ Fm08.isBlock w.bytes = true
theorem MedAt.mono {a : Ad} {H H' : Hp} {p B W : Addr} {m : List Fm08.Bytes} {way : List Fm08.Write} (s : Same H H') (h : MedAt a H p B W m way) : MedAt a H' p B W m way :=
  ⟨h.o.mono s, h.b.elim fun as e => ⟨as, s _ _ e.1, e.2.imp fun _ _ k => k.mono s⟩, h.w.elim fun ws e => ⟨ws, s _ _ e.1, e.2.imp fun _ _ k => k.mono s⟩, h.ne, h.blk, h.in'⟩
def actM (d : List Fm08.Bytes × List Fm08.Write) : Fm08.Act → List Fm08.Bytes × List Fm08.Write
  | .write b x => (d.1, d.2 ++ [⟨b, x⟩])
  | .barrier => (d.2.foldl (fun m w => Fm08.arrived m w Fm08.SIZE) d.1, [])
def ActAt (H : Hp) (v : V) : Fm08.Act → Prop
  | .write b x => ∃ t, v = .ref t ∧ WrAt H t ⟨b, x⟩
  | .barrier => v = .non
theorem ActAt.mono {H H' : Hp} {v : V} {c : Fm08.Act} (s : Same H H') (h : ActAt H v c) : ActAt H' v c := by
  cases c with
  | write b x => exact h.elim fun t e => ⟨t, e.1, e.2.mono s⟩
  | barrier => exact h
def ActOk (n : Nat) : Fm08.Act → Prop
  | .write b x => b < n ∧ Fm08.isBlock x = true
  | .barrier => True
def sp_Medium_init (K : PySem.W.Frag) (a : Ad) : Sp := fun vs H Q _ => ∃ p dx B, vs = [.ref p, .ref B] ∧ H p = some (.ins a.c_Medium dx []) ∧ ∀ H' W, O_Medium a H' p (.ref B) (.ref W) → H' W = some (.lst []) → H W = none → Keep [p] H H' → Q .non H'
theorem mk_Medium {K : PySem.W.Frag} {a : Ad} {H : Hp} {Q : VK} {E : XK} {B : Addr} (q : ∀ x W H', Same H H' → H x = none → H W = none → O_Medium a H' x (.ref B) (.ref W) → H' W = some (.lst []) → Q (.ref x) H') : makev a.c_Medium (sp_Medium_init K a) E [.ref B] H Q :=
  fun x dx nx nd ne => ⟨x, dx, B, rfl, upd_same, fun H' W o e n k => ⟨rfl, q x W H' (made_same nx nd k) nx (((same_new nd).trans (same_new (by rw [upd_ne ne.symm]; exact nx))).free n) o e⟩⟩
def sp_Medium_wait (K : PySem.W.Frag) (a : Ad) : Sp := fun vs H Q _ => ∃ p B W m way, vs = [.ref p] ∧ MedAt a H p B W m way ∧
  ∀ H' W', MedAt a H' p B W' (actM (m, way) .barrier).1 [] → Keep [p, B] H H' → H W' = none → Q .non H'
def sp_Medium_act (K : PySem.W.Frag) (a : Ad) : Sp := fun vs H Q _ => ∃ p B W m way v c, vs = [.ref p, v] ∧ MedAt a H p B W m way ∧ way.length < 100000 ∧ ActAt H v c ∧ ActOk m.length c ∧
  ∀ H' W', MedAt a H' p B W' (actM (m, way) c).1 (actM (m, way) c).2 → Keep [p, B, W] H H' → (W' = W ∨ H W' = none) → Q .non H'
def sp_Medium_put_first_bytes (K : PySem.W.Frag) (a : Ad) : Sp := fun vs H Q _ => ∃ p B W m way t w, ∃ k : Nat, vs = [.ref p, .ref t, .int k] ∧ MedAt a H p B W m way ∧ WrAt H t w ∧ w.block < m.length ∧ Fm08.isBlock w.bytes = true ∧
  ∀ H', MedAt a H' p B W (Fm08.arrived m w k) way → Keep [B] H H' → Q .non H'
def sp_Medium_arrive (K : PySem.W.Frag) (a : Ad) : Sp := fun vs H Q _ => ∃ p B W m way r row, vs = [.ref p, .ref r] ∧ MedAt a H p B W m way ∧ LB H r row ∧ r ≠ B ∧
  ∀ H', MedAt a H' p B W (Fm08.reached m way row) way → Keep [B] H H' → Q .non H'
def sp_Medium_lose (K : PySem.W.Frag) (a : Ad) : Sp := fun vs H Q _ => ∃ p B W m way, vs = [.ref p] ∧ MedAt a H p B W m way ∧
  ∀ H' W', MedAt a H' p B W' m [] → Keep [p] H H' → H W' = none → Q .non H'
end Dk
namespace Dk
open PySem PySem.Spec PyProof.Rows L2
/-! ### what the running disk knows -/
def kd (l : List (Nat × Addr)) : List (Key × V) := l.map fun x => (Sum.inl (x.1 : Int), V.ref x.2)
def KB (H : Hp) (x : Nat × Addr) (y : Nat × Fm08.Bytes) : Prop := x.1 = y.1 ∧ LB H x.2 y.2
def NewAt (H : Hp) (p : Addr) (over : List (Nat × Fm08.Bytes)) : Prop := ∃ kvs m, H p = some (.dK (kd kvs)) ∧ Al (KB H) kvs m ∧ m.Perm over
theorem NewAt.mono {H H' : Hp} {p : Addr} {over : List (Nat × Fm08.Bytes)} (s : Same H H') (h : NewAt H p over) : NewAt H' p over := by
  obtain ⟨kvs, m, h1, h2, h3⟩ := h
  exact ⟨kvs, m, s _ _ h1, h2.imp fun _ _ k => ⟨k.1, k.2.mono s⟩, h3⟩
structure UpOk (n : Nat) (u : Fm08.Up) : Prop where
  sh : Fm08.shapeOk n u.j = true
  pl : u.place < u.j
  us : u.used ≤ u.j
  so : Dm.Sorted u.over
  ov : ∀ x ∈ u.over, x.1 < Fm08.homes n u.j ∧ Fm08.isBlock x.2 = true
structure KnownAt (a : Ad) (H : Hp) (p : Addr) (n : Nat) (u : Fm08.Up) : Prop where
  ex : ∃ hd nw S nm pl, O_Known a H p (.ref hd) (.int u.next) (.int u.place) (.int u.used) (.ref nw) ∧ O_Head a H hd (.int u.gen) (.ref S) (.int nm) (.int pl) ∧ ShapeAt a H S n u.j ∧ NewAt H nw u.over
theorem KnownAt.mono {a : Ad} {H H' : Hp} {p : Addr} {n : Nat} {u : Fm08.Up} (s : Same H H') (h : KnownAt a H p n u) : KnownAt a H' p n u := by
  obtain ⟨hd, nw, S, nm, pl, h1, h2, h3, h4⟩ := h.ex
  exact ⟨hd, nw, S, nm, pl, h1.mono s, h2.mono s, h3.mono s, h4.mono s⟩
def ActsAt (H : Hp) (p : Addr) (l : List Fm08.Act) : Prop := ∃ vs, H p = some (.lst vs) ∧ Al (ActAt H) vs l
theorem ActsAt.mono {H H' : Hp} {p : Addr} {l : List Fm08.Act} (s : Same H H') (h : ActsAt H p l) : ActsAt H' p l := h.elim fun vs e => ⟨vs, s _ _ e.1, e.2.imp fun _ _ k => k.mono s⟩
def OpAt (a : Ad) (H0 H : Hp) (p : Addr) (n : Nat) (r : Int × Option (List Fm08.Act × Fm08.Up)) : Prop := match r.2 with
  | none => ∃ l, O_Operation a H p (.int r.1) (.ref l) .non ∧ H0 l = none ∧ H l = some (.lst [])
  | some x => ∃ l k, O_Operation a H p (.int r.1) (.ref l) (.ref k) ∧ H0 l = none ∧ ActsAt H l x.1 ∧ KnownAt a H k n x.2
def sp_Known_init (K : PySem.W.Frag) (a : Ad) : Sp := fun vs H Q _ => ∃ p dx hd g s nm pl, vs = [.ref p, .ref hd] ∧ H p = some (.ins a.c_Known dx []) ∧ O_Head a H hd g s nm pl ∧
  ∀ H' nw, O_Known a H' p (.ref hd) nm pl (.int 0) (.ref nw) → H' nw = some (.dK []) → H nw = none → Keep [p] H H' → Q .non H'
theorem mk_Known {K : PySem.W.Frag} {a : Ad} {H : Hp} {Q : VK} {E : XK} {hd : Addr} {g s nm pl : V} (h : O_Head a H hd g s nm pl) (q : ∀ x nw H', Same H H' → H x = none → H nw = none → O_Known a H' x (.ref hd) nm pl (.int 0) (.ref nw) → H' nw = some (.dK []) → Q (.ref x) H') :
    makev a.c_Known (sp_Known_init K a) E [.ref hd] H Q :=
  fun x dx nx nd ne => ⟨x, dx, hd, g, s, nm, pl, rfl, upd_same, h.mono ((same_new nd).trans (same_new (by rw [upd_ne ne.symm]; exact nx))), fun H' nw o e n k => ⟨rfl, q x nw H' (made_same nx nd k) nx (((same_new nd).trans (same_new (by rw [upd_ne ne.symm]; exact nx))).free n) o e⟩⟩
def sp_refused (K : PySem.W.Frag) (a : Ad) : Sp := fun vs H Q _ => ∃ (z : Int), vs = [.int z] ∧ ∀ H' p, Same H H' → H p = none → (∀ n, OpAt a H H' p n (z, none)) → Q (.ref p) H'
def sp_Shape_block_of_home (K : PySem.W.Frag) (a : Ad) : Sp := fun vs H Q _ => ∃ p n j, ∃ k : Int, vs = [.ref p, .int k] ∧ ShapeAt a H p n j ∧ Q (.int ((j : Int) + 2 + k)) H
def sp_Shape_block_of_place (K : PySem.W.Frag) (a : Ad) : Sp := fun vs H Q _ => ∃ p n j, ∃ k : Nat, vs = [.ref p, .int k] ∧ ShapeAt a H p n j ∧ j ≠ 0 ∧ Q (.int ((2 + k % j : Nat) : Int)) H
def sp_home_writes (K : PySem.W.Frag) (a : Ad) : Sp := fun vs H Q _ => ∃ S n j nw over, vs = [.ref S, .ref nw] ∧ ShapeAt a H S n j ∧ NewAt H nw over ∧ Dm.Sorted over ∧ over.length ≤ 100000 ∧ (∀ x ∈ over, x.2 ≠ []) ∧
  ∀ H' p, Same H H' → H p = none → ActsAt H' p (over.map fun x => .write (2 + j + x.1) x.2) → Q (.ref p) H'
def sp_head_write (K : PySem.W.Frag) (a : Ad) : Sp := fun vs H Q _ => ∃ p h, vs = [.ref p] ∧ HeadAt a H p h ∧ ∀ H' v, Same H H' → ActAt H' v (.write (h.gen % 2) h.bytes) → Q v H'
def sp_flush_operation (K : PySem.W.Frag) (a : Ad) : Sp := fun vs H Q _ => ∃ k n u, vs = [.ref k] ∧ KnownAt a H k n u ∧ ∀ H' p, Same H H' → H p = none → OpAt a H H' p n (0, some ([.barrier], u)) → Q (.ref p) H'
def sp_settle_operation (K : PySem.W.Frag) (a : Ad) : Sp := fun vs H Q _ => ∃ k n u, vs = [.ref k] ∧ KnownAt a H k n u ∧ UpOk n u ∧ ∀ H' p, Same H H' → H p = none → OpAt a H H' p n (0, some (Fm08.settling n u)) → Q (.ref p) H'
def after (u : Fm08.Up) (t : Fm08.Txn) : Fm08.Up := { u with next := u.next + 1, place := (u.place + t.length + 1) % u.j, used := u.used + t.length + 1, over := Fm08.putAll u.over t }
def sp_known_behind (K : PySem.W.Frag) (a : Ad) : Sp := fun vs H Q _ => ∃ k x n u t, vs = [.ref k, .ref x] ∧ KnownAt a H k n u ∧ UpOk n u ∧ TxnAt a H x t ∧ t.length ≤ 1000 ∧ (∀ z ∈ t, z.2 ≠ []) ∧
  ∀ H' p, Same H H' → H p = none → KnownAt a H' p n (after u t) → Q (.ref p) H'
end Dk
namespace Dk
open PySem PySem.Spec PyProof.Rows L2
/-! ### promises: committing, mending -/
def planC (n : Nat) (u : Fm08.Up) (t : Fm08.Txn) : Int × Option (List Fm08.Act × Fm08.Up) :=
  if Fm08.txnOk (Fm08.homes n u.j) t = false then (-2, none) else if u.j < t.length + 1 then (-5, none) else
    (((if u.j < u.used + t.length + 1 then Fm08.settling n u else ([], u)).2.next : Nat),
      some ((if u.j < u.used + t.length + 1 then Fm08.settling n u else ([], u)).1 ++ ((Fm08.pieces (if u.j < u.used + t.length + 1 then Fm08.settling n u else ([], u)).2.next t).zipIdx.map fun (x : Fm08.Bytes × Nat) => Fm08.Act.write (Fm08.spot (if u.j < u.used + t.length + 1 then Fm08.settling n u else ([], u)).2.j (if u.j < u.used + t.length + 1 then Fm08.settling n u else ([], u)).2.place x.2) x.1),
        after (if u.j < u.used + t.length + 1 then Fm08.settling n u else ([], u)).2 t))
def planM (m : List Fm08.Bytes) : Int × Option (List Fm08.Act × Fm08.Up) := match Fm08.best m with
  | none => (-6, none)
  | some h => (((Fm08.found m h.j h.j h.next h.place).1.length : Nat), some ((((Fm08.found m h.j h.j h.next h.place).1.foldl Fm08.putAll []).map fun (x : Nat × Fm08.Bytes) => Fm08.Act.write (2 + h.j + x.1) x.2) ++
      [Fm08.Act.barrier, Fm08.Act.write ((h.gen + 1) % 2) (Fm08.Head.bytes ⟨h.gen + 1, h.n, h.j, h.next + (Fm08.found m h.j h.j h.next h.place).1.length + h.j, (Fm08.found m h.j h.j h.next h.place).2⟩), Fm08.Act.barrier],
      ⟨h.j, h.next + (Fm08.found m h.j h.j h.next h.place).1.length + h.j, (Fm08.found m h.j h.j h.next h.place).2, 0, h.gen + 1, []⟩))
theorem plan_commit (d : Fm08.Disk) (u : Fm08.Up) (t : Fm08.Txn) (h : d.up = some u) : Fm08.plan d (.commit t) = planC d.medium.length u t := by
  unfold Fm08.plan planC
  rw [h]
  rfl
theorem plan_mend (d : Fm08.Disk) (h : d.up = none) : Fm08.plan d .mend = planM d.medium := by
  unfold Fm08.plan planM
  rw [h]
  cases Fm08.best d.medium <;> rfl
def txnOf (homes : List Nat) (data : List Nat) : Fm08.Txn := homes.zipIdx.map fun (x : Nat × Nat) => (x.1, (data.drop (Fm08.SIZE * x.2)).take Fm08.SIZE)
def chunks (d : List Nat) (n : Nat) : List (List Nat) := (List.range n).map fun k => (d.drop (512 * k)).take 512
def sp_split_blocks (K : PySem.W.Frag) (a : Ad) : Sp := fun vs H Q _ => ∃ p d n, vs = [.ref p] ∧ LB H p d ∧ d.length = 512 * n ∧ n ≤ 5000 ∧ ∀ H' q, Same H H' → H q = none → LBs H' q (chunks d n) → Q (.ref q) H'
def sp_mend_operation (K : PySem.W.Frag) (a : Ad) : Sp := fun vs H Q _ => ∃ B m, vs = [.ref B] ∧ LBs H B m ∧ Dm.Mok m ∧ ∀ H' p, Same H H' → H p = none → OpAt a H H' p m.length (planM m) → Q (.ref p) H'
def sp_commit_operation (K : PySem.W.Frag) (a : Ad) : Sp := fun vs H Q _ => ∃ k hs ds n u homes data, vs = [.ref k, .ref hs, .ref ds] ∧ KnownAt a H k n u ∧ UpOk n u ∧ LB H hs homes ∧ LB H ds data ∧ homes.length ≤ 5000 ∧ data.length = 512 * homes.length ∧ (∀ x ∈ data, x < 256) ∧
  ∀ H' p, Same H H' → H p = none → OpAt a H H' p n (planC n u (txnOf homes data)) → Q (.ref p) H'
end Dk
namespace Dk
open PySem PySem.Spec PyProof.Rows L2
/-! ### the drive -/
def LI (H : Hp) (p : Addr) (zs : List Int) : Prop := H p = some (.lst (zs.map V.int))
/-- what the drive changes: lists of refs, the drive, its medium, the reader -/
def Foreign (o : HO) : Prop := (∃ xs : List Addr, o = .lst (xs.map V.ref)) ∨ (∃ C dx v w, o = .ins C dx (fl_Drive v w)) ∨ (∃ C dx v w, o = .ins C dx (fl_Medium v w)) ∨ (∃ C dx v w, o = .ins C dx (fl_Reader v w))
structure Fr (H H' : Hp) (F F' : List Addr) : Prop where
  k : Keep F H H'
  n : ∀ b ∈ F', b ∈ F ∨ H b = none
theorem Fr.trans {H H1 H2 : Hp} {F F1 F2 : List Addr} (x : Fr H H1 F F1) (y : Fr H1 H2 F1 F2) : Fr H H2 F F2 := by
  refine ⟨fun b o e n => y.k b o (x.k b o e n) fun m => ?_, fun b m => ?_⟩
  · rcases x.n b m with z | z
    · exact n z
    · rw [z] at e; cases e
  · rcases y.n b m with z | z
    · exact x.n b z
    · by_cases hb : b ∈ F
      · exact .inl hb
      · refine .inr ?_
        cases e : H b with
        | none => rfl
        | some o => rw [x.k b o e hb] at z; cases z
theorem Fr.same {H H' : Hp} (F : List Addr) (s : Same H H') : Fr H H' F F := ⟨Keep.of s, fun _ m => .inl m⟩
structure DriveAt (a : Ad) (H : Hp) (p md B W : Addr) (d : Fm08.Disk) : Prop where
  o : ∃ kn, O_Drive a H p (.ref md) kn ∧ (match d.up with
    | none => kn = .non
    | some u => ∃ k, kn = .ref k ∧ KnownAt a H k d.medium.length u)
  m : MedAt a H md B W d.medium d.way
theorem DriveAt.mono {a : Ad} {H H' : Hp} {p md B W : Addr} {d : Fm08.Disk} (s : Same H H') (h : DriveAt a H p md B W d) : DriveAt a H' p md B W d := by
  obtain ⟨⟨kn, h1, h2⟩, h3⟩ := h
  refine ⟨⟨kn, h1.mono s, ?_⟩, h3.mono s⟩
  cases e : d.up with
  | none => rw [e] at h2; exact h2
  | some u => rw [e] at h2; exact h2.elim fun k z => ⟨k, z.1, z.2.mono s⟩
structure DiskOk (d : Fm08.Disk) : Prop where
  mok : Dm.Mok d.medium
  up : ∀ u, d.up = some u → UpOk d.medium.length u
  way : d.way.length ≤ 50000
def DP (p md B W : Addr) : List Addr := [p, md, B, W]
def sp_Drive_init (K : PySem.W.Frag) (a : Ad) : Sp := fun vs H Q _ => ∃ p dx, vs = [.ref p] ∧ H p = some (.ins a.c_Drive dx []) ∧ ∀ H' md B W, DriveAt a H' p md B W Fm08.nothing → (∀ b ∈ [md, B, W], H b = none) → Keep [p] H H' → Q .non H'
def sp_Drive_make (K : PySem.W.Frag) (a : Ad) : Sp := fun vs H Q _ => ∃ p md B W d, ∃ n j : Int, vs = [.ref p, .int n, .int j] ∧ DriveAt a H p md B W d ∧
  ∀ H' md' B' W' r, DriveAt a H' p md' B' W' (Fm08.spec d (.make n j)).2 → LI H' r [(Fm08.spec d (.make n j)).1.v] → Fr H H' (DP p md B W) (DP p md' B' W') → (H r = none ∨ r ∈ DP p md B W) → Q (.ref r) H'
def rdAns (d : Fm08.Disk) (k : Int) : List Int := if (Fm08.spec d (.read k)).1.v < 0 then [(Fm08.spec d (.read k)).1.v] else (Fm08.spec d (.read k)).1.v :: Fm08Neutral.ints (Fm08.spec d (.read k)).1.out
def sp_Drive_read (K : PySem.W.Frag) (a : Ad) : Sp := fun vs H Q _ => ∃ p md B W d, ∃ k : Int, vs = [.ref p, .int k] ∧ DriveAt a H p md B W d ∧ DiskOk d ∧
  ∀ H' r, Same H H' → H r = none → LI H' r (rdAns d k) → Q (.ref r) H'
/-- the operation of a kind -/
def opN (kind : Nat) (homes data : List Nat) : Fm08.Op := if kind = 0 then .commit (txnOf homes data) else if kind = 1 then .flush else if kind = 2 then .settle else .mend
def OpIn (H : Hp) (hs ds : Addr) (homes data : List Nat) : Prop := LB H hs homes ∧ LB H ds data ∧ homes.length ≤ 5000 ∧ data.length = 512 * homes.length ∧ ∀ x ∈ data, x < 256
theorem OpIn.mono {H H' : Hp} {hs ds : Addr} {homes data : List Nat} (s : Same H H') (h : OpIn H hs ds homes data) : OpIn H' hs ds homes data := ⟨h.1.mono s, h.2.1.mono s, h.2.2⟩
def sp_Drive_operation (K : PySem.W.Frag) (a : Ad) : Sp := fun vs H Q _ => ∃ p md B W d kind hs ds homes data, vs = [.ref p, .int (kind : Nat), .ref hs, .ref ds] ∧ DriveAt a H p md B W d ∧ DiskOk d ∧ kind ≤ 3 ∧ OpIn H hs ds homes data ∧
  ∀ H' q, Same H H' → H q = none → OpAt a H H' q d.medium.length (Fm08.plan d (opN kind homes data)) → Q (.ref q) H'
def sp_Drive_operate (K : PySem.W.Frag) (a : Ad) : Sp := fun vs H Q _ => ∃ p md B W d kind hs ds homes data, vs = [.ref p, .int (kind : Nat), .ref hs, .ref ds] ∧ DriveAt a H p md B W d ∧ DiskOk d ∧ kind ≤ 3 ∧ OpIn H hs ds homes data ∧
  ∀ H' W' r, DriveAt a H' p md B W' (Fm08.after d (opN kind homes data)) → LI H' r [(Fm08.plan d (opN kind homes data)).1] → Fr H H' (DP p md B W) (DP p md B W') → (H r = none ∨ r ∈ DP p md B W) → Q (.ref r) H'
def sp_Drive_cut (K : PySem.W.Frag) (a : Ad) : Sp := fun vs H Q _ => ∃ p md B W d rw row, vs = [.ref p, .ref rw] ∧ DriveAt a H p md B W d ∧ LB H rw row ∧ rw ≠ B ∧
  ∀ H' W' r, DriveAt a H' p md B W' (Fm08.cut d row) → LI H' r [0] → Fr H H' (DP p md B W) (DP p md B W') → (H r = none ∨ r ∈ DP p md B W) → Q (.ref r) H'
def sp_Drive_cut_in (K : PySem.W.Frag) (a : Ad) : Sp := fun vs H Q _ => ∃ p md B W d o H0 rw row op, ∃ after : Nat, vs = [.ref p, .int after, .ref o, .ref rw] ∧ DriveAt a H p md B W d ∧ DiskOk d ∧ LB H rw row ∧ rw ∉ DP p md B W ∧ OpAt a H0 H o d.medium.length (Fm08.plan d op) ∧ (∀ b ∈ DP p md B W, H0 b ≠ none) ∧
  ∀ H' W' r, DriveAt a H' p md B W' (Fm08.cutIn d op after row) → LI H' r [0] → Fr H H' (DP p md B W) (DP p md B W') → (H r = none ∨ r ∈ DP p md B W) → Q (.ref r) H'
def sp_Drive_arrive (K : PySem.W.Frag) (a : Ad) : Sp := fun vs H Q _ => ∃ p md B W d rw row, vs = [.ref p, .ref rw] ∧ DriveAt a H p md B W d ∧ DiskOk d ∧ LB H rw row ∧ rw ≠ B ∧
  ∀ H' r, DriveAt a H' p md B W (Fm08.arrive d row) → LI H' r [0] → Fr H H' (DP p md B W) (DP p md B W) → (H r = none ∨ r ∈ DP p md B W) → Q (.ref r) H'
/-- a call that changes nothing: it makes its answer -/
def Tells (d : Fm08.Disk) (cl : Fm08Neutral.Call) (H : Hp) (Q : VK) : Prop := ∀ H' r, Same H H' → H r = none → LI H' r (Fm08Neutral.step d cl).2 → Q (.ref r) H'
def sp_Drive_told (K : PySem.W.Frag) (a : Ad) : Sp := fun vs H Q _ => ∃ p md B W d, vs = [.ref p] ∧ DriveAt a H p md B W d ∧ DiskOk d ∧ Tells d [[((9 : Nat) : Int)]] H Q
def sp_Drive_block (K : PySem.W.Frag) (a : Ad) : Sp := fun vs H Q _ => ∃ p md B W d, ∃ b : Int, vs = [.ref p, .int b] ∧ DriveAt a H p md B W d ∧ DiskOk d ∧ Tells d [[((10 : Nat) : Int), b]] H Q
def sp_Drive_look (K : PySem.W.Frag) (a : Ad) : Sp := fun vs H Q _ => ∃ p md B W d, vs = [.ref p] ∧ DriveAt a H p md B W d ∧ DiskOk d ∧ Tells d [[((11 : Nat) : Int)]] H Q
def sp_Drive_save (K : PySem.W.Frag) (a : Ad) : Sp := fun vs H Q _ => ∃ p md B W d, vs = [.ref p] ∧ DriveAt a H p md B W d ∧ DiskOk d ∧ Tells d [[((12 : Nat) : Int)]] H Q
def sp_Drive_load (K : PySem.W.Frag) (a : Ad) : Sp := fun vs H Q _ => ∃ p md B W d r0 b, vs = [.ref p, .ref r0] ∧ DriveAt a H p md B W d ∧ LB H r0 b ∧ b.length ≤ 1000000 ∧ (∀ x ∈ b, x < 256) ∧
  ∀ H' md' B' W' r, DriveAt a H' p md' B' W' (Fm08.spec d (.load b)).2 → LI H' r [(Fm08.spec d (.load b)).1.v] → Fr H H' (DP p md B W) (DP p md' B' W') → (H r = none ∨ r ∈ DP p md B W) → Q (.ref r) H'
def plAns (r : Int × Option (List Fm08.Act × Fm08.Up)) : List Int := match r.2 with
  | none => [r.1]
  | some x => Fm08Neutral.ints (0 :: x.1.flatMap Fm08.actTold)
def sp_Drive_plan (K : PySem.W.Frag) (a : Ad) : Sp := fun vs H Q _ => ∃ p md B W d kind hs ds homes data, vs = [.ref p, .int (kind : Nat), .ref hs, .ref ds] ∧ DriveAt a H p md B W d ∧ DiskOk d ∧ kind ≤ 3 ∧ OpIn H hs ds homes data ∧
  ∀ H' r, Same H H' → H r = none → LI H' r (plAns (Fm08.plan d (opN kind homes data))) → Q (.ref r) H'
/-! ### the reader -/
def RdAt (a : Ad) (H : Hp) (p c : Addr) (i : Nat) : Prop := O_Reader a H p (.ref c) (.int i)
def sp_Reader_init (K : PySem.W.Frag) (a : Ad) : Sp := fun vs H Q _ => ∃ p dx c, vs = [.ref p, .ref c] ∧ H p = some (.ins a.c_Reader dx []) ∧ ∀ H', RdAt a H' p c 0 → Keep [p] H H' → Q .non H'
def sp_Reader_is_at_end (K : PySem.W.Frag) (a : Ad) : Sp := fun vs H Q _ => ∃ p c i ns, vs = [.ref p] ∧ RdAt a H p c i ∧ SqL K H c (List.map V.int ns) ∧ Q (.bl (decide (i = ns.length))) H
def sp_Reader_take (K : PySem.W.Frag) (a : Ad) : Sp := fun vs H Q _ => ∃ p c i ns z, vs = [.ref p] ∧ RdAt a H p c i ∧ SqL K H c (List.map V.int ns) ∧ ns[i]? = some z ∧ ∀ H', RdAt a H' p c (i + 1) → Keep [p] H H' → Q (.int z) H'
def sp_Reader_take_row (K : PySem.W.Frag) (a : Ad) : Sp := fun vs H Q _ => ∃ p c i ns, ∃ k : Nat, vs = [.ref p] ∧ RdAt a H p c i ∧ SqL K H c (List.map V.int ns) ∧ ns[i]? = some (k : Int) ∧ i + 1 + k ≤ ns.length ∧
  ∀ H' r, RdAt a H' p c (i + 1 + k) → Keep [p] H H' → H r = none → LI H' r ((ns.drop (i + 1)).take k) → Q (.ref r) H'
end Dk
namespace Dk
open PySem PySem.Spec PyProof.Rows L2
def t_Shape_init (K : PySem.W.Frag) (a : Ad) : TS :=
  (tSeq (sFld K (tVar 0) (tVar 1) "block_count")
    (tSeq (sFld K (tVar 0) (tVar 2) "place_count")
    (sFld K (tVar 0) (tOp oSub (tOp oSub (tVar 1) (tVar 2)) (tC (V.int 2))) "home_count")))
def t_Shape_block_of_home (K : PySem.W.Frag) (a : Ad) : TS :=
  (tRet (tOp oAdd (tOp oAdd (tFld K (tVar 0) "place_count") (tC (V.int 2))) (tVar 1)))
def t_Shape_block_of_place (K : PySem.W.Frag) (a : Ad) : TS :=
  (tRet (tOp oAdd (tC (V.int 2)) (tOp oMod (tVar 1) (tFld K (tVar 0) "place_count"))))
def t_Head_init (K : PySem.W.Frag) (a : Ad) : TS :=
  (tSeq (sFld K (tVar 0) (tVar 1) "generation")
    (tSeq (sFld K (tVar 0) (tVar 2) "shape")
    (tSeq (sFld K (tVar 0) (tVar 3) "number")
    (sFld K (tVar 0) (tVar 4) "place"))))
def t_Transaction_init (K : PySem.W.Frag) (a : Ad) : TS :=
  (tSeq (sFld K (tVar 0) (tVar 1) "homes")
    (sFld K (tVar 0) (tVar 2) "blocks"))
def t_Found_init (K : PySem.W.Frag) (a : Ad) : TS :=
  (tSeq (sFld K (tVar 0) (tVar 1) "head")
    (tSeq (sFld K (tVar 0) (tVar 2) "transactions")
    (sFld K (tVar 0) (tVar 3) "place")))
def t_Medium_init (K : PySem.W.Frag) (a : Ad) : TS :=
  (tSeq (sFld K (tVar 0) (tVar 1) "blocks")
    (sFld K (tVar 0) (tLst tNil) "on_way"))
def t_Medium_wait (K : PySem.W.Frag) (a : Ad) : TS :=
  (tSeq (tFor (iList K (tFld K (tVar 0) "on_way")) (gTup K 2 (gCons (gName 1) (gCons (gName 2) gNil))) (tAsg (tVar 2) (gSub (tFld K (tVar 0) "blocks") (tVar 1) rSetL)))
    (sFld K (tVar 0) (tLst tNil) "on_way"))
def t_Medium_act (K : PySem.W.Frag) (a : Ad) : TS :=
  (tIfS (tTest (tOp oIsN (tVar 1) (tC V.non))) (tDrop (tMeth a.c_Medium "wait" (sp_Medium_wait K a) [] E0 (tVar 0) tNil)) (tDrop (tBM K "list" rAppend (tFld K (tVar 0) "on_way") (tCons (tVar 1) tNil))))
def t_Medium_put_first_bytes (K : PySem.W.Frag) (a : Ad) : TS :=
  (tSeq (tAsg (tOp (rIxT K) (tVar 1) (tC (V.int 0))) (gName 3))
    (tAsg (tOp rCat (tSl (rSlL K) (tOp (rIxT K) (tVar 1) (tC (V.int 1))) tNoPart (tPart (tVar 2))) (tSl (rSlL K) (tOp (rIxL K) (tFld K (tVar 0) "blocks") (tVar 3)) (tPart (tVar 2)) tNoPart)) (gSub (tFld K (tVar 0) "blocks") (tVar 3) rSetL)))
def t_Medium_arrive (K : PySem.W.Frag) (a : Ad) : TS :=
  (tFor (iList K (tVar 1)) (gName 2) (tSeq (tAsg (tOp oDiv (tVar 2) (tC (V.int 1024))) (gName 3))
    (tIfS (tTest (tOp oLt (tVar 3) (tCB (rLen K) (tCons (tFld K (tVar 0) "on_way") tNil)))) (tDrop (tMeth a.c_Medium "put_first_bytes" (sp_Medium_put_first_bytes K a) [] E0 (tVar 0) (tCons (tOp (rIxL K) (tFld K (tVar 0) "on_way") (tVar 3)) (tCons (tCB cMin2 (tCons (tOp oMod (tVar 2) (tC (V.int 1024))) (tCons (tC (V.int 512)) tNil))) tNil)))) tNext)))
def t_Medium_lose (K : PySem.W.Frag) (a : Ad) : TS :=
  (sFld K (tVar 0) (tLst tNil) "on_way")
def t_Known_init (K : PySem.W.Frag) (a : Ad) : TS :=
  (tSeq (sFld K (tVar 0) (tVar 1) "head")
    (tSeq (sFld K (tVar 0) (tFld K (tVar 1) "number") "number")
    (tSeq (sFld K (tVar 0) (tFld K (tVar 1) "place") "place")
    (tSeq (sFld K (tVar 0) (tC (V.int 0)) "taken")
    (sFld K (tVar 0) tDNewK "newest")))))
def t_Operation_init (K : PySem.W.Frag) (a : Ad) : TS :=
  (tSeq (sFld K (tVar 0) (tVar 1) "answer")
    (tSeq (sFld K (tVar 0) (tVar 2) "actions")
    (sFld K (tVar 0) (tVar 3) "known")))
def t_Drive_init (K : PySem.W.Frag) (a : Ad) : TS :=
  (tSeq (sFld K (tVar 0) (tMake a.c_Medium (sp_Medium_init K a) [] E0 (tCons (tLst tNil) tNil)) "medium")
    (sFld K (tVar 0) (tC V.non) "known"))
def t_block_count_is_allowed (K : PySem.W.Frag) (a : Ad) : TS :=
  (tRet (tAndV (tOp oGe (tVar 0) (tC (V.int 8))) (tOp oLe (tVar 0) (tC (V.int 4096)))))
def t_shape_is_allowed (K : PySem.W.Frag) (a : Ad) : TS :=
  (tSeq (tIfS (tNot (tB (tCall (sp_block_count_is_allowed K a) [] E0 (tCons (tVar 0) tNil)))) (tRet (tC (V.bl false))) tNext)
    (tRet (tAndV (tOp oGe (tVar 1) (tC (V.int 4))) (tOp oLe (tVar 1) (tOp oSub (tVar 0) (tC (V.int 3)))))))
def t_letters (K : PySem.W.Frag) (a : Ad) : TS :=
  (tRet (tLc (iStr (tVar 0)) (gName 1) tYes (tCB cOrd (tCons (tVar 1) tNil)) [1]))
def t_number_bytes (K : PySem.W.Frag) (a : Ad) : TS :=
  (tRet (tLc (iRng1 (tCons (tVar 1) tNil)) (gName 2) tYes (tOp oAnd (tOp oShr (tVar 0) (tOp oMul (tC (V.int 8)) (tVar 2))) (tC (V.int 255))) [2]))
def t_sum_of (K : PySem.W.Frag) (a : Ad) : TS :=
  (tSeq (tAsg (tC (V.int 4294967295)) (gName 1))
    (tSeq (tFor (iList K (tVar 0)) (gName 2) (tSeq (tAsg (tOp oXor (tVar 1) (tVar 2)) (gName 1))
    (tSeq (tAsg (tOp oXor (tOp oShr (tVar 1) (tC (V.int 4))) (tOp (rIxT K) (tC (V.ref a.k_FOUR_STEPS)) (tOp oAnd (tVar 1) (tC (V.int 15))))) (gName 1))
    (tAsg (tOp oXor (tOp oShr (tVar 1) (tC (V.int 4))) (tOp (rIxT K) (tC (V.ref a.k_FOUR_STEPS)) (tOp oAnd (tVar 1) (tC (V.int 15))))) (gName 1)))))
    (tRet (tOp oXor (tVar 1) (tC (V.int 4294967295))))))
def t_head_block (K : PySem.W.Frag) (a : Ad) : TS :=
  (tSeq (tAsg (tOp rCat (tCall (sp_letters K a) [] E0 (tCons (tC (V.str "TALLYDSK")) tNil)) (tCall (sp_number_bytes K a) [] E0 (tCons (tFld K (tVar 0) "generation") (tCons (tC (V.int 8)) tNil)))) (gName 1))
    (tSeq (tDrop (tBM K "list" rExtend (tVar 1) (tCons (tCall (sp_number_bytes K a) [] E0 (tCons (tFld K (tFld K (tVar 0) "shape") "block_count") (tCons (tC (V.int 4)) tNil))) tNil)))
    (tSeq (tDrop (tBM K "list" rExtend (tVar 1) (tCons (tCall (sp_number_bytes K a) [] E0 (tCons (tFld K (tFld K (tVar 0) "shape") "place_count") (tCons (tC (V.int 4)) tNil))) tNil)))
    (tSeq (tDrop (tBM K "list" rExtend (tVar 1) (tCons (tCall (sp_number_bytes K a) [] E0 (tCons (tFld K (tVar 0) "number") (tCons (tC (V.int 8)) tNil))) tNil)))
    (tSeq (tDrop (tBM K "list" rExtend (tVar 1) (tCons (tCall (sp_number_bytes K a) [] E0 (tCons (tFld K (tVar 0) "place") (tCons (tC (V.int 4)) tNil))) tNil)))
    (tSeq (tDrop (tBM K "list" rExtend (tVar 1) (tCons (tOp rRep (tLst (tCons (tC (V.int 0)) tNil)) (tOp oSub (tC (V.int 500)) (tCB (rLen K) (tCons (tVar 1) tNil)))) tNil)))
    (tRet (tOp rCat (tOp rCat (tVar 1) (tCall (sp_number_bytes K a) [] E0 (tCons (tCall (sp_sum_of K a) [] E0 (tCons (tVar 1) tNil)) (tCons (tC (V.int 4)) tNil)))) (tCall (sp_number_bytes K a) [] E0 (tCons (tFld K (tVar 0) "generation") (tCons (tC (V.int 8)) tNil)))))))))))
def t_Drive_make (K : PySem.W.Frag) (a : Ad) : TS :=
  (tSeq (tIfS (tNot (tB (tCall (sp_shape_is_allowed K a) [] E0 (tCons (tVar 1) (tCons (tVar 2) tNil))))) (tRet (tLst (tCons (tUn oNeg (tC (V.int 2))) tNil))) tNext)
    (tSeq (tAsg (tMake a.c_Shape (sp_Shape_init K a) [] E0 (tCons (tVar 1) (tCons (tVar 2) tNil))) (gName 3))
    (tSeq (tAsg (tMake a.c_Head (sp_Head_init K a) [] E0 (tCons (tC (V.int 1)) (tCons (tVar 3) (tCons (tC (V.int 1)) (tCons (tC (V.int 0)) tNil))))) (gName 4))
    (tSeq (tAsg (tLst (tCons (tCall (sp_head_block K a) [] E0 (tCons (tMake a.c_Head (sp_Head_init K a) [] E0 (tCons (tC (V.int 0)) (tCons (tVar 3) (tCons (tC (V.int 1)) (tCons (tC (V.int 0)) tNil))))) tNil)) (tCons (tCall (sp_head_block K a) [] E0 (tCons (tVar 4) tNil)) tNil))) (gName 5))
    (tSeq (sFld K (tVar 0) (tMake a.c_Medium (sp_Medium_init K a) [] E0 (tCons (tOp rCat (tVar 5) (tOp rRep (tLst (tCons (tOp rRep (tLst (tCons (tC (V.int 0)) tNil)) (tC (V.int 512))) tNil)) (tOp oSub (tVar 1) (tC (V.int 2))))) tNil)) "medium")
    (tSeq (sFld K (tVar 0) (tMake a.c_Known (sp_Known_init K a) [] E0 (tCons (tVar 4) tNil)) "known")
    (tRet (tLst (tCons (tC (V.int 0)) tNil)))))))))
def t_Drive_read (K : PySem.W.Frag) (a : Ad) : TS :=
  (tSeq (tIfS (tTest (tOp oIsN (tFld K (tVar 0) "known") (tC V.non))) (tRet (tLst (tCons (tUn oNeg (tC (V.int 6))) tNil))) tNext)
    (tSeq (tAsg (tFld K (tFld K (tFld K (tVar 0) "known") "head") "shape") (gName 2))
    (tSeq (tIfS (tOr (tTest (tOp oLt (tVar 1) (tC (V.int 0)))) (tTest (tOp oGe (tVar 1) (tFld K (tVar 2) "home_count")))) (tRet (tLst (tCons (tUn oNeg (tC (V.int 2))) tNil))) tNext)
    (tSeq (tIfS (tB (tDIn (tVar 1) (tFld K (tFld K (tVar 0) "known") "newest"))) (tRet (tOp rCat (tLst (tCons (tC (V.int 0)) tNil)) (tDGet (tFld K (tFld K (tVar 0) "known") "newest") (tVar 1)))) tNext)
    (tRet (tOp rCat (tLst (tCons (tC (V.int 0)) tNil)) (tOp (rIxL K) (tFld K (tFld K (tVar 0) "medium") "blocks") (tMeth a.c_Shape "block_of_home" (sp_Shape_block_of_home K a) [] E0 (tVar 2) (tCons (tVar 1) tNil)))))))))
def t_refused (K : PySem.W.Frag) (a : Ad) : TS :=
  (tRet (tMake a.c_Operation (sp_Operation_init K a) [] E0 (tCons (tVar 0) (tCons (tLst tNil) (tCons (tC V.non) tNil)))))
def t_number_at (K : PySem.W.Frag) (a : Ad) : TS :=
  (tSeq (tAsg (tC (V.int 0)) (gName 3))
    (tSeq (tFor (iRev K (tCons (tSl (rSlL K) (tVar 0) (tPart (tVar 1)) (tPart (tOp oAdd (tVar 1) (tVar 2)))) tNil)) (gName 4) (tAsg (tOp oAdd (tOp oMul (tVar 3) (tC (V.int 256))) (tVar 4)) (gName 3)))
    (tRet (tVar 3))))
def t_head_in (K : PySem.W.Frag) (a : Ad) : TS :=
  (tSeq (tAsg (tOp (rIxL K) (tVar 0) (tVar 1)) (gName 2))
    (tSeq (tAsg (tMake a.c_Shape (sp_Shape_init K a) [] E0 (tCons (tCall (sp_number_at K a) [] E0 (tCons (tVar 2) (tCons (tC (V.int 16)) (tCons (tC (V.int 4)) tNil)))) (tCons (tCall (sp_number_at K a) [] E0 (tCons (tVar 2) (tCons (tC (V.int 20)) (tCons (tC (V.int 4)) tNil)))) tNil))) (gName 3))
    (tSeq (tAsg (tMake a.c_Head (sp_Head_init K a) [] E0 (tCons (tCall (sp_number_at K a) [] E0 (tCons (tVar 2) (tCons (tC (V.int 8)) (tCons (tC (V.int 8)) tNil)))) (tCons (tVar 3) (tCons (tCall (sp_number_at K a) [] E0 (tCons (tVar 2) (tCons (tC (V.int 24)) (tCons (tC (V.int 8)) tNil)))) (tCons (tCall (sp_number_at K a) [] E0 (tCons (tVar 2) (tCons (tC (V.int 32)) (tCons (tC (V.int 4)) tNil)))) tNil))))) (gName 4))
    (tSeq (tIfS (tOr (tTest (tOp rNe (tOp oMod (tFld K (tVar 4) "generation") (tC (V.int 2))) (tVar 1))) (tTest (tOp oGe (tFld K (tVar 4) "generation") (tC (V.int 1152921504606846976))))) (tRet (tC V.non)) tNext)
    (tSeq (tIfS (tOr (tTest (tOp rNe (tFld K (tVar 3) "block_count") (tCB (rLen K) (tCons (tVar 0) tNil)))) (tNot (tB (tCall (sp_shape_is_allowed K a) [] E0 (tCons (tFld K (tVar 3) "block_count") (tCons (tFld K (tVar 3) "place_count") tNil)))))) (tRet (tC V.non)) tNext)
    (tSeq (tIfS (tOr (tTest (tOp oGe (tFld K (tVar 4) "number") (tC (V.int 1152921504606846976)))) (tTest (tOp oGe (tFld K (tVar 4) "place") (tFld K (tVar 3) "place_count")))) (tRet (tC V.non)) tNext)
    (tSeq (tIfS (tTest (tOp (rNeD K) (tCall (sp_head_block K a) [] E0 (tCons (tVar 4) tNil)) (tVar 2))) (tRet (tC V.non)) tNext)
    (tRet (tVar 4)))))))))
def t_counting_head (K : PySem.W.Frag) (a : Ad) : TS :=
  (tSeq (tIfS (tTest (tOp rEq (tCB (rLen K) (tCons (tVar 0) tNil)) (tC (V.int 0)))) (tRet (tC V.non)) tNext)
    (tSeq (tAsg (tCall (sp_head_in K a) [] E0 (tCons (tVar 0) (tCons (tC (V.int 0)) tNil))) (gName 1))
    (tSeq (tAsg (tCall (sp_head_in K a) [] E0 (tCons (tVar 0) (tCons (tC (V.int 1)) tNil))) (gName 2))
    (tSeq (tIfS (tTest (tOp oIsN (tVar 1) (tC V.non))) (tRet (tVar 2)) tNext)
    (tSeq (tIfS (tOr (tTest (tOp oIsN (tVar 2) (tC V.non))) (tTest (tOp oGt (tFld K (tVar 1) "generation") (tFld K (tVar 2) "generation")))) (tRet (tVar 1)) tNext)
    (tRet (tVar 2)))))))
def t_homes_are_allowed (K : PySem.W.Frag) (a : Ad) : TS :=
  (tSeq (tIfS (tOr (tTest (tOp oLt (tCB (rLen K) (tCons (tVar 0) tNil)) (tC (V.int 1)))) (tTest (tOp oGt (tCB (rLen K) (tCons (tVar 0) tNil)) (tC (V.int 30))))) (tRet (tC (V.bl false))) tNext)
    (tRet (tAndV (tOp rEq (tLenSet K (tVar 0)) (tCB (rLen K) (tCons (tVar 0) tNil))) (tOp oLt (tCB (rMax K) (tCons (tVar 0) tNil)) (tVar 1)))))
def t_transaction_blocks (K : PySem.W.Frag) (a : Ad) : TS :=
  (tSeq (tAsg (tOp rCat (tCall (sp_letters K a) [] E0 (tCons (tC (V.str "TALLYTXN")) tNil)) (tCall (sp_number_bytes K a) [] E0 (tCons (tVar 0) (tCons (tC (V.int 8)) tNil)))) (gName 2))
    (tSeq (tDrop (tBM K "list" rExtend (tVar 2) (tCons (tOp rCat (tCall (sp_number_bytes K a) [] E0 (tCons (tCB (rLen K) (tCons (tFld K (tVar 1) "homes") tNil)) (tCons (tC (V.int 4)) tNil))) (tOp rRep (tLst (tCons (tC (V.int 0)) tNil)) (tC (V.int 4)))) tNil)))
    (tSeq (tAsg (tLst tNil) (gName 3))
    (tSeq (tFor (iZip K (tCons (tFld K (tVar 1) "homes") (tCons (tFld K (tVar 1) "blocks") tNil))) (gTup K 2 (gCons (gName 4) (gCons (gName 5) gNil))) (tSeq (tDrop (tBM K "list" rExtend (tVar 2) (tCons (tOp rCat (tOp rCat (tCall (sp_number_bytes K a) [] E0 (tCons (tVar 4) (tCons (tC (V.int 4)) tNil))) (tCall (sp_number_bytes K a) [] E0 (tCons (tCall (sp_sum_of K a) [] E0 (tCons (tVar 5) tNil)) (tCons (tC (V.int 4)) tNil)))) (tSl (rSlL K) (tVar 5) (tPart (tC (V.int 504))) tNoPart)) tNil)))
    (tDrop (tBM K "list" rAppend (tVar 3) (tCons (tOp rCat (tSl (rSlL K) (tVar 5) tNoPart (tPart (tC (V.int 504)))) (tCall (sp_number_bytes K a) [] E0 (tCons (tVar 0) (tCons (tC (V.int 8)) tNil)))) tNil)))))
    (tSeq (tDrop (tBM K "list" rExtend (tVar 2) (tCons (tOp rCat (tOp rRep (tLst (tCons (tC (V.int 0)) tNil)) (tOp oSub (tC (V.int 504)) (tCB (rLen K) (tCons (tVar 2) tNil)))) (tCall (sp_number_bytes K a) [] E0 (tCons (tVar 0) (tCons (tC (V.int 8)) tNil)))) tNil)))
    (tRet (tOp rCat (tLst (tCons (tVar 2) tNil)) (tVar 3))))))))
def t_transaction_at (K : PySem.W.Frag) (a : Ad) : TS :=
  (tSeq (tAsg (tOp (rIxL K) (tVar 0) (tVar 1)) (gName 4))
    (tSeq (tAsg (tCall (sp_number_at K a) [] E0 (tCons (tVar 4) (tCons (tC (V.int 16)) (tCons (tC (V.int 4)) tNil)))) (gName 5))
    (tSeq (tIfS (tOr (tTest (tOp rNe (tCall (sp_number_at K a) [] E0 (tCons (tVar 4) (tCons (tC (V.int 8)) (tCons (tC (V.int 8)) tNil)))) (tVar 2))) (tTest (tOp oGt (tOp oAdd (tVar 5) (tC (V.int 1))) (tCB (rLen K) (tCons (tVar 0) tNil))))) (tRet (tC V.non)) tNext)
    (tSeq (tAsg (tLst (tCons (tVar 4) tNil)) (gName 6))
    (tSeq (tAsg (tLst tNil) (gName 7))
    (tSeq (tAsg (tLst tNil) (gName 8))
    (tSeq (tFor (iRng1 (tCons (tVar 5) tNil)) (gName 9) (tSeq (tAsg (tOp oAdd (tC (V.int 24)) (tOp oMul (tC (V.int 16)) (tVar 9))) (gName 10))
    (tSeq (tAsg (tOp (rIxL K) (tVar 0) (tOp oMod (tOp oAdd (tOp oAdd (tVar 1) (tC (V.int 1))) (tVar 9)) (tCB (rLen K) (tCons (tVar 0) tNil)))) (gName 11))
    (tSeq (tDrop (tBM K "list" rAppend (tVar 6) (tCons (tVar 11) tNil)))
    (tSeq (tDrop (tBM K "list" rAppend (tVar 7) (tCons (tCall (sp_number_at K a) [] E0 (tCons (tVar 4) (tCons (tVar 10) (tCons (tC (V.int 4)) tNil)))) tNil)))
    (tDrop (tBM K "list" rAppend (tVar 8) (tCons (tOp rCat (tSl (rSlL K) (tVar 11) tNoPart (tPart (tC (V.int 504)))) (tSl (rSlL K) (tVar 4) (tPart (tOp oAdd (tVar 10) (tC (V.int 8)))) (tPart (tOp oAdd (tVar 10) (tC (V.int 16)))))) tNil))))))))
    (tSeq (tAsg (tMake a.c_Transaction (sp_Transaction_init K a) [] E0 (tCons (tVar 7) (tCons (tVar 8) tNil))) (gName 12))
    (tSeq (tIfS (tAnd (tB (tCall (sp_homes_are_allowed K a) [] E0 (tCons (tVar 7) (tCons (tVar 3) tNil)))) (tTest (tOp (rEqD K) (tCall (sp_transaction_blocks K a) [] E0 (tCons (tVar 2) (tCons (tVar 12) tNil))) (tVar 6)))) (tRet (tVar 12)) tNext)
    (tRet (tC V.non)))))))))))
def t_found_on (K : PySem.W.Frag) (a : Ad) : TS :=
  (tSeq (tAsg (tCall (sp_counting_head K a) [] E0 (tCons (tVar 0) tNil)) (gName 1))
    (tSeq (tIfS (tTest (tOp oIsN (tVar 1) (tC V.non))) (tRet (tC V.non)) tNext)
    (tSeq (tAsg (tFld K (tVar 1) "shape") (gName 2))
    (tSeq (tAsg (tSl (rSlL K) (tVar 0) (tPart (tC (V.int 2))) (tPart (tOp oAdd (tFld K (tVar 2) "place_count") (tC (V.int 2))))) (gName 3))
    (tSeq (tAsg (tLst tNil) (gName 4))
    (tSeq (tAsg (tFld K (tVar 1) "place") (gName 5))
    (tSeq (tWhile (tTest (tOp oLt (tCB (rLen K) (tCons (tVar 4) tNil)) (tFld K (tVar 2) "place_count"))) (tSeq (tAsg (tOp oAdd (tFld K (tVar 1) "number") (tCB (rLen K) (tCons (tVar 4) tNil))) (gName 6))
    (tSeq (tAsg (tCall (sp_transaction_at K a) [] E0 (tCons (tVar 3) (tCons (tVar 5) (tCons (tVar 6) (tCons (tFld K (tVar 2) "home_count") tNil))))) (gName 7))
    (tSeq (tIfS (tTest (tOp oIsN (tVar 7) (tC V.non))) tBreak tNext)
    (tSeq (tDrop (tBM K "list" rAppend (tVar 4) (tCons (tVar 7) tNil)))
    (tAsg (tOp oMod (tOp oAdd (tOp oAdd (tVar 5) (tC (V.int 1))) (tCB (rLen K) (tCons (tFld K (tVar 7) "homes") tNil))) (tFld K (tVar 2) "place_count")) (gName 5)))))))
    (tRet (tMake a.c_Found (sp_Found_init K a) [] E0 (tCons (tVar 1) (tCons (tVar 4) (tCons (tVar 5) tNil))))))))))))
def t_home_writes (K : PySem.W.Frag) (a : Ad) : TS :=
  (tRet (tLc (iList K (tCB cSortedD (tCons (tVar 1) tNil))) (gName 2) tYes (tTup (tCons (tMeth a.c_Shape "block_of_home" (sp_Shape_block_of_home K a) [] E0 (tVar 0) (tCons (tVar 2) tNil)) (tCons (tDGet (tVar 1) (tVar 2)) tNil))) [2]))
def t_head_write (K : PySem.W.Frag) (a : Ad) : TS :=
  (tRet (tTup (tCons (tOp oMod (tFld K (tVar 0) "generation") (tC (V.int 2))) (tCons (tCall (sp_head_block K a) [] E0 (tCons (tVar 0) tNil)) tNil))))
def t_mend_operation (K : PySem.W.Frag) (a : Ad) : TS :=
  (tSeq (tAsg (tCall (sp_found_on K a) [] E0 (tCons (tVar 0) tNil)) (gName 1))
    (tSeq (tIfS (tTest (tOp oIsN (tVar 1) (tC V.non))) (tRet (tCall (sp_refused K a) [] E0 (tCons (tUn oNeg (tC (V.int 6))) tNil))) tNext)
    (tSeq (tAsg (tFld K (tFld K (tVar 1) "head") "shape") (gName 2))
    (tSeq (tAsg tDNewK (gName 3))
    (tSeq (tFor (iList K (tFld K (tVar 1) "transactions")) (gName 4) (tFor (iZip K (tCons (tFld K (tVar 4) "homes") (tCons (tFld K (tVar 4) "blocks") tNil))) (gTup K 2 (gCons (gName 5) (gCons (gName 6) gNil))) (sDPut (tVar 3) (tVar 5) (tVar 6))))
    (tSeq (tAsg (tOp oAdd (tOp oAdd (tFld K (tFld K (tVar 1) "head") "number") (tCB (rLen K) (tCons (tFld K (tVar 1) "transactions") tNil))) (tFld K (tVar 2) "place_count")) (gName 7))
    (tSeq (tAsg (tMake a.c_Head (sp_Head_init K a) [] E0 (tCons (tOp oAdd (tFld K (tFld K (tVar 1) "head") "generation") (tC (V.int 1))) (tCons (tVar 2) (tCons (tVar 7) (tCons (tFld K (tVar 1) "place") tNil))))) (gName 8))
    (tSeq (tAsg (tOp rCat (tCall (sp_home_writes K a) [] E0 (tCons (tVar 2) (tCons (tVar 3) tNil))) (tLst (tCons (tC V.non) (tCons (tCall (sp_head_write K a) [] E0 (tCons (tVar 8) tNil)) (tCons (tC V.non) tNil))))) (gName 9))
    (tRet (tMake a.c_Operation (sp_Operation_init K a) [] E0 (tCons (tCB (rLen K) (tCons (tFld K (tVar 1) "transactions") tNil)) (tCons (tVar 9) (tCons (tMake a.c_Known (sp_Known_init K a) [] E0 (tCons (tVar 8) tNil)) tNil)))))))))))))
def t_split_blocks (K : PySem.W.Frag) (a : Ad) : TS :=
  (tRet (tLc (iRng3 (tCons (tC (V.int 0)) (tCons (tCB (rLen K) (tCons (tVar 0) tNil)) (tCons (tC (V.int 512)) tNil)))) (gName 1) tYes (tSl (rSlL K) (tVar 0) (tPart (tVar 1)) (tPart (tOp oAdd (tVar 1) (tC (V.int 512))))) [1]))
def t_settle_operation (K : PySem.W.Frag) (a : Ad) : TS :=
  (tSeq (tIfS (tTest (tOp rEq (tFld K (tVar 0) "taken") (tC (V.int 0)))) (tRet (tMake a.c_Operation (sp_Operation_init K a) [] E0 (tCons (tC (V.int 0)) (tCons (tLst tNil) (tCons (tVar 0) tNil))))) tNext)
    (tSeq (tAsg (tFld K (tFld K (tVar 0) "head") "shape") (gName 1))
    (tSeq (tAsg (tMake a.c_Head (sp_Head_init K a) [] E0 (tCons (tOp oAdd (tFld K (tFld K (tVar 0) "head") "generation") (tC (V.int 1))) (tCons (tVar 1) (tCons (tFld K (tVar 0) "number") (tCons (tFld K (tVar 0) "place") tNil))))) (gName 2))
    (tSeq (tAsg (tOp rCat (tOp rCat (tLst (tCons (tC V.non) tNil)) (tCall (sp_home_writes K a) [] E0 (tCons (tVar 1) (tCons (tFld K (tVar 0) "newest") tNil)))) (tLst (tCons (tC V.non) (tCons (tCall (sp_head_write K a) [] E0 (tCons (tVar 2) tNil)) (tCons (tC V.non) tNil))))) (gName 3))
    (tRet (tMake a.c_Operation (sp_Operation_init K a) [] E0 (tCons (tC (V.int 0)) (tCons (tVar 3) (tCons (tMake a.c_Known (sp_Known_init K a) [] E0 (tCons (tVar 2) tNil)) tNil)))))))))
def t_known_behind (K : PySem.W.Frag) (a : Ad) : TS :=
  (tSeq (tAsg (tOp oAdd (tCB (rLen K) (tCons (tFld K (tVar 1) "homes") tNil)) (tC (V.int 1))) (gName 2))
    (tSeq (tAsg (tMake a.c_Known (sp_Known_init K a) [] E0 (tCons (tFld K (tVar 0) "head") tNil)) (gName 3))
    (tSeq (sFld K (tVar 3) (tOp oAdd (tFld K (tVar 0) "number") (tC (V.int 1))) "number")
    (tSeq (sFld K (tVar 3) (tOp oMod (tOp oAdd (tFld K (tVar 0) "place") (tVar 2)) (tFld K (tFld K (tFld K (tVar 0) "head") "shape") "place_count")) "place")
    (tSeq (sFld K (tVar 3) (tOp oAdd (tFld K (tVar 0) "taken") (tVar 2)) "taken")
    (tSeq (sFld K (tVar 3) (tCB cDict (tCons (tFld K (tVar 0) "newest") tNil)) "newest")
    (tSeq (tFor (iZip K (tCons (tFld K (tVar 1) "homes") (tCons (tFld K (tVar 1) "blocks") tNil))) (gTup K 2 (gCons (gName 4) (gCons (gName 5) gNil))) (sDPut (tFld K (tVar 3) "newest") (tVar 4) (tVar 5)))
    (tRet (tVar 3)))))))))
def t_commit_operation (K : PySem.W.Frag) (a : Ad) : TS :=
  (tSeq (tAsg (tFld K (tFld K (tVar 0) "head") "shape") (gName 3))
    (tSeq (tIfS (tOr (tNot (tB (tCall (sp_homes_are_allowed K a) [] E0 (tCons (tVar 1) (tCons (tFld K (tVar 3) "home_count") tNil))))) (tTest (tOp rNe (tCB (rLen K) (tCons (tVar 2) tNil)) (tOp oMul (tC (V.int 512)) (tCB (rLen K) (tCons (tVar 1) tNil)))))) (tRet (tCall (sp_refused K a) [] E0 (tCons (tUn oNeg (tC (V.int 2))) tNil))) tNext)
    (tSeq (tIfS (tTest (tOp oGt (tOp oAdd (tCB (rLen K) (tCons (tVar 1) tNil)) (tC (V.int 1))) (tFld K (tVar 3) "place_count"))) (tRet (tCall (sp_refused K a) [] E0 (tCons (tUn oNeg (tC (V.int 5))) tNil))) tNext)
    (tSeq (tAsg (tMake a.c_Transaction (sp_Transaction_init K a) [] E0 (tCons (tVar 1) (tCons (tCall (sp_split_blocks K a) [] E0 (tCons (tVar 2) tNil)) tNil))) (gName 4))
    (tSeq (tAsg (tLst tNil) (gName 5))
    (tSeq (tAsg (tVar 0) (gName 6))
    (tSeq (tIfS (tTest (tOp oGt (tOp oAdd (tOp oAdd (tFld K (tVar 0) "taken") (tCB (rLen K) (tCons (tVar 1) tNil))) (tC (V.int 1))) (tFld K (tVar 3) "place_count"))) (tSeq (tAsg (tCall (sp_settle_operation K a) [] E0 (tCons (tVar 0) tNil)) (gName 7))
    (tSeq (tDrop (tBM K "list" rExtend (tVar 5) (tCons (tFld K (tVar 7) "actions") tNil)))
    (tAsg (tFld K (tVar 7) "known") (gName 6)))) tNext)
    (tSeq (tFor (iEnum K (tCons (tCall (sp_transaction_blocks K a) [] E0 (tCons (tFld K (tVar 6) "number") (tCons (tVar 4) tNil))) tNil)) (gTup K 2 (gCons (gName 8) (gCons (gName 9) gNil))) (tDrop (tBM K "list" rAppend (tVar 5) (tCons (tTup (tCons (tMeth a.c_Shape "block_of_place" (sp_Shape_block_of_place K a) [] E0 (tVar 3) (tCons (tOp oAdd (tFld K (tVar 6) "place") (tVar 8)) tNil)) (tCons (tVar 9) tNil))) tNil))))
    (tRet (tMake a.c_Operation (sp_Operation_init K a) [] E0 (tCons (tFld K (tVar 6) "number") (tCons (tVar 5) (tCons (tCall (sp_known_behind K a) [] E0 (tCons (tVar 6) (tCons (tVar 4) tNil))) tNil)))))))))))))
def t_flush_operation (K : PySem.W.Frag) (a : Ad) : TS :=
  (tRet (tMake a.c_Operation (sp_Operation_init K a) [] E0 (tCons (tC (V.int 0)) (tCons (tLst (tCons (tC V.non) tNil)) (tCons (tVar 0) tNil)))))
def t_Drive_operation (K : PySem.W.Frag) (a : Ad) : TS :=
  (tSeq (tIfS (tTest (tOp rEq (tVar 1) (tC (V.int 3)))) (tSeq (tIfS (tTest (tOp oNotN (tFld K (tVar 0) "known") (tC V.non))) (tRet (tCall (sp_refused K a) [] E0 (tCons (tUn oNeg (tC (V.int 3))) tNil))) tNext)
    (tRet (tCall (sp_mend_operation K a) [] E0 (tCons (tFld K (tFld K (tVar 0) "medium") "blocks") tNil)))) tNext)
    (tSeq (tIfS (tTest (tOp oIsN (tFld K (tVar 0) "known") (tC V.non))) (tRet (tCall (sp_refused K a) [] E0 (tCons (tUn oNeg (tC (V.int 6))) tNil))) tNext)
    (tSeq (tIfS (tTest (tOp rEq (tVar 1) (tC (V.int 0)))) (tRet (tCall (sp_commit_operation K a) [] E0 (tCons (tFld K (tVar 0) "known") (tCons (tVar 2) (tCons (tVar 3) tNil))))) tNext)
    (tSeq (tIfS (tTest (tOp rEq (tVar 1) (tC (V.int 1)))) (tRet (tCall (sp_flush_operation K a) [] E0 (tCons (tFld K (tVar 0) "known") tNil))) tNext)
    (tRet (tCall (sp_settle_operation K a) [] E0 (tCons (tFld K (tVar 0) "known") tNil)))))))
def t_Drive_operate (K : PySem.W.Frag) (a : Ad) : TS :=
  (tSeq (tAsg (tMeth a.c_Drive "operation" (sp_Drive_operation K a) [] E0 (tVar 0) (tCons (tVar 1) (tCons (tVar 2) (tCons (tVar 3) tNil)))) (gName 4))
    (tSeq (tIfS (tTest (tOp oGe (tFld K (tVar 4) "answer") (tC (V.int 0)))) (tSeq (tFor (iList K (tFld K (tVar 4) "actions")) (gName 5) (tDrop (tMeth a.c_Medium "act" (sp_Medium_act K a) [] E0 (tFld K (tVar 0) "medium") (tCons (tVar 5) tNil))))
    (sFld K (tVar 0) (tFld K (tVar 4) "known") "known")) tNext)
    (tRet (tLst (tCons (tFld K (tVar 4) "answer") tNil)))))
def t_Drive_cut (K : PySem.W.Frag) (a : Ad) : TS :=
  (tSeq (tDrop (tMeth a.c_Medium "arrive" (sp_Medium_arrive K a) [] E0 (tFld K (tVar 0) "medium") (tCons (tVar 1) tNil)))
    (tSeq (tDrop (tMeth a.c_Medium "lose" (sp_Medium_lose K a) [] E0 (tFld K (tVar 0) "medium") tNil))
    (tSeq (sFld K (tVar 0) (tC V.non) "known")
    (tRet (tLst (tCons (tC (V.int 0)) tNil))))))
def t_Drive_cut_in (K : PySem.W.Frag) (a : Ad) : TS :=
  (tSeq (tFor (iList K (tSl (rSlL K) (tFld K (tVar 2) "actions") tNoPart (tPart (tVar 1)))) (gName 4) (tDrop (tMeth a.c_Medium "act" (sp_Medium_act K a) [] E0 (tFld K (tVar 0) "medium") (tCons (tVar 4) tNil))))
    (tRet (tMeth a.c_Drive "cut" (sp_Drive_cut K a) [] E0 (tVar 0) (tCons (tVar 3) tNil))))
def t_Drive_arrive (K : PySem.W.Frag) (a : Ad) : TS :=
  (tSeq (tDrop (tMeth a.c_Medium "arrive" (sp_Medium_arrive K a) [] E0 (tFld K (tVar 0) "medium") (tCons (tVar 1) tNil)))
    (tRet (tLst (tCons (tC (V.int 0)) tNil))))
def t_Drive_told (K : PySem.W.Frag) (a : Ad) : TS :=
  (tSeq (tAsg (tFld K (tVar 0) "known") (gName 1))
    (tSeq (tIfS (tTest (tOp oIsN (tVar 1) (tC V.non))) (tRet (tLst (tCons (tUn oNeg (tC (V.int 6))) tNil))) tNext)
    (tSeq (tAsg (tFld K (tFld K (tVar 1) "head") "shape") (gName 2))
    (tSeq (tAsg (tLst (tCons (tFld K (tVar 2) "block_count") (tCons (tFld K (tVar 2) "place_count") (tCons (tFld K (tVar 2) "home_count") tNil)))) (gName 3))
    (tRet (tOp rCat (tOp rCat (tLst (tCons (tC (V.int 0)) tNil)) (tVar 3)) (tLst (tCons (tFld K (tVar 1) "number") (tCons (tFld K (tVar 1) "place") (tCons (tFld K (tVar 1) "taken") (tCons (tFld K (tFld K (tVar 1) "head") "generation") (tCons (tCB (rLen K) (tCons (tFld K (tFld K (tVar 0) "medium") "on_way") tNil)) tNil))))))))))))
def t_Drive_block (K : PySem.W.Frag) (a : Ad) : TS :=
  (tSeq (tIfS (tOr (tTest (tOp oLt (tVar 1) (tC (V.int 0)))) (tTest (tOp oGe (tVar 1) (tCB (rLen K) (tCons (tFld K (tFld K (tVar 0) "medium") "blocks") tNil))))) (tRet (tLst (tCons (tUn oNeg (tC (V.int 2))) tNil))) tNext)
    (tRet (tOp rCat (tLst (tCons (tC (V.int 0)) tNil)) (tOp (rIxL K) (tFld K (tFld K (tVar 0) "medium") "blocks") (tVar 1)))))
def t_Drive_look (K : PySem.W.Frag) (a : Ad) : TS :=
  (tSeq (tAsg (tCall (sp_found_on K a) [] E0 (tCons (tFld K (tFld K (tVar 0) "medium") "blocks") tNil)) (gName 1))
    (tSeq (tIfS (tTest (tOp oIsN (tVar 1) (tC V.non))) (tRet (tLst (tCons (tUn oNeg (tC (V.int 6))) tNil))) tNext)
    (tSeq (tAsg (tLst (tCons (tC (V.int 0)) (tCons (tFld K (tFld K (tVar 1) "head") "generation") (tCons (tFld K (tFld K (tVar 1) "head") "number") (tCons (tFld K (tFld K (tVar 1) "head") "place") (tCons (tCB (rLen K) (tCons (tFld K (tVar 1) "transactions") tNil)) tNil)))))) (gName 2))
    (tSeq (tFor (iList K (tFld K (tVar 1) "transactions")) (gName 3) (tSeq (tDrop (tBM K "list" rAppend (tVar 2) (tCons (tCB (rLen K) (tCons (tFld K (tVar 3) "homes") tNil)) tNil)))
    (tDrop (tBM K "list" rExtend (tVar 2) (tCons (tFld K (tVar 3) "homes") tNil)))))
    (tRet (tVar 2))))))
def t_Drive_save (K : PySem.W.Frag) (a : Ad) : TS :=
  (tSeq (tAsg (tLst (tCons (tCB (rLen K) (tCons (tFld K (tFld K (tVar 0) "medium") "blocks") tNil)) tNil)) (gName 1))
    (tSeq (tFor (iList K (tFld K (tFld K (tVar 0) "medium") "blocks")) (gName 2) (tDrop (tBM K "list" rExtend (tVar 1) (tCons (tVar 2) tNil))))
    (tRet (tVar 1))))
def t_Drive_load (K : PySem.W.Frag) (a : Ad) : TS :=
  (tSeq (tIfS (tOr (tTest (tOp rNe (tOp oMod (tCB (rLen K) (tCons (tVar 1) tNil)) (tC (V.int 512))) (tC (V.int 0)))) (tNot (tB (tCall (sp_block_count_is_allowed K a) [] E0 (tCons (tOp oDiv (tCB (rLen K) (tCons (tVar 1) tNil)) (tC (V.int 512))) tNil))))) (tRet (tLst (tCons (tUn oNeg (tC (V.int 2))) tNil))) tNext)
    (tSeq (sFld K (tVar 0) (tMake a.c_Medium (sp_Medium_init K a) [] E0 (tCons (tCall (sp_split_blocks K a) [] E0 (tCons (tVar 1) tNil)) tNil)) "medium")
    (tSeq (sFld K (tVar 0) (tC V.non) "known")
    (tRet (tLst (tCons (tC (V.int 0)) tNil))))))
def t_Drive_plan (K : PySem.W.Frag) (a : Ad) : TS :=
  (tSeq (tAsg (tMeth a.c_Drive "operation" (sp_Drive_operation K a) [] E0 (tVar 0) (tCons (tVar 1) (tCons (tVar 2) (tCons (tVar 3) tNil)))) (gName 4))
    (tSeq (tIfS (tTest (tOp oLt (tFld K (tVar 4) "answer") (tC (V.int 0)))) (tRet (tLst (tCons (tFld K (tVar 4) "answer") tNil))) tNext)
    (tSeq (tAsg (tLst (tCons (tC (V.int 0)) tNil)) (gName 5))
    (tSeq (tFor (iList K (tFld K (tVar 4) "actions")) (gName 6) (tIfS (tTest (tOp oIsN (tVar 6) (tC V.non))) (tDrop (tBM K "list" rAppend (tVar 5) (tCons (tC (V.int 0)) tNil))) (tDrop (tBM K "list" rExtend (tVar 5) (tCons (tLst (tCons (tOp oAdd (tOp (rIxT K) (tVar 6) (tC (V.int 0))) (tC (V.int 1))) (tCons (tCall (sp_sum_of K a) [] E0 (tCons (tOp (rIxT K) (tVar 6) (tC (V.int 1))) tNil)) tNil))) tNil)))))
    (tRet (tVar 5))))))
def t_Reader_init (K : PySem.W.Frag) (a : Ad) : TS :=
  (tSeq (sFld K (tVar 0) (tVar 1) "calls")
    (sFld K (tVar 0) (tC (V.int 0)) "at"))
def t_Reader_is_at_end (K : PySem.W.Frag) (a : Ad) : TS :=
  (tRet (tOp rEq (tFld K (tVar 0) "at") (tCB (rLen K) (tCons (tFld K (tVar 0) "calls") tNil))))
def t_Reader_take (K : PySem.W.Frag) (a : Ad) : TS :=
  (tSeq (sFld K (tVar 0) (tOp oAdd (tFld K (tVar 0) "at") (tC (V.int 1))) "at")
    (tRet (tOp (rIxL K) (tFld K (tVar 0) "calls") (tOp oSub (tFld K (tVar 0) "at") (tC (V.int 1))))))
def t_Reader_take_row (K : PySem.W.Frag) (a : Ad) : TS :=
  (tSeq (tAsg (tMeth a.c_Reader "take" (sp_Reader_take K a) [] E0 (tVar 0) tNil) (gName 1))
    (tSeq (sFld K (tVar 0) (tOp oAdd (tFld K (tVar 0) "at") (tVar 1)) "at")
    (tRet (tSl (rSlL K) (tFld K (tVar 0) "calls") (tPart (tOp oSub (tFld K (tVar 0) "at") (tVar 1))) (tPart (tFld K (tVar 0) "at"))))))
end Dk
namespace Dk
open PySem PySem.Spec PyProof.Rows L2
local macro_rules | `(tactic| walk_at "s1") => `(tactic| with_reducible first
  | refine w_seq ?_ | refine w_asg ?_ | refine w_drop ?_ | refine w_ret ?_ | refine w_retN ?_ | refine w_next ?_ | refine w_if ?_ | refine w_c ?_ | refine w_op ?_ | refine w_un ?_
  | refine w_fld ?_ | refine w_sfld ?_ | refine w_meth ?_ | refine w_call ?_ | refine w_cons ?_ | refine w_nil ?_ | refine w_cb ?_ | refine w_gname ?_ | refine w_lst ?_ | refine w_tup ?_
  | refine w_sl ?_ | refine w_nopart ?_ | refine w_part ?_ | refine w_parti ?_ | refine w_bm ?_ | refine w_test ?_ | refine w_tB ?_ | refine w_not ?_ | refine w_and_t ?_ | refine w_or_t ?_ | refine w_andV ?_ | refine w_orV ?_
  | refine w_for ?_ | refine w_ilist ?_ | refine w_rng1 ?_ | refine w_rev ?_ | refine w_istr ?_ | refine w_istr2 ?_ | refine w_zip ?_ | refine w_enum ?_ | refine w_lc ?_ | refine w_break ?_ | refine w_cont ?_ | refine w_dnew ?_
  | refine w_make ?_ | refine w_bl ?_ | refine w_isN ?_ | refine w_notN ?_ | refine w_neg ?_
  | refine w_add ?_ | refine w_sub ?_ | refine w_lt ?_ | refine w_le ?_ | refine w_gt ?_ | refine w_ge ?_ | refine w_eqI ?_ | refine w_neI ?_)
local macro_rules | `(tactic| walk_at "sv") => `(tactic| ((with_reducible refine' w_var ?hh ?_); (case hh => exact rfl)))
local macro_rules | `(tactic| walk_at "st") => `(tactic| first | walk_at "s1" | walk_at "sv")
local macro_rules | `(tactic| walk_at "go") => `(tactic| repeat' walk_at "st")
local macro_rules | `(tactic| walk_at "s1x") => `(tactic| with_reducible first
  | refine w_seq ?_ | refine w_asg ?_ | refine w_drop ?_ | refine w_ret ?_ | refine w_retN ?_ | refine w_next ?_ | refine w_c ?_ | refine w_op ?_ | refine w_un ?_
  | refine w_fld ?_ | refine w_sfld ?_ | refine w_meth ?_ | refine w_call ?_ | refine w_cons ?_ | refine w_nil ?_ | refine w_cb ?_ | refine w_gname ?_ | refine w_lst ?_ | refine w_tup ?_
  | refine w_sl ?_ | refine w_nopart ?_ | refine w_part ?_ | refine w_parti ?_ | refine w_bm ?_ | refine w_test ?_ | refine w_tB ?_ | refine w_not ?_ | refine w_and_t ?_ | refine w_or_t ?_ | refine w_andV ?_ | refine w_orV ?_
  | refine w_for ?_ | refine w_ilist ?_ | refine w_rng1 ?_ | refine w_rev ?_ | refine w_istr ?_ | refine w_istr2 ?_ | refine w_zip ?_ | refine w_enum ?_ | refine w_lc ?_ | refine w_break ?_ | refine w_cont ?_ | refine w_dnew ?_
  | refine w_make ?_ | refine w_bl ?_ | refine w_isN ?_ | refine w_notN ?_ | refine w_neg ?_
  | refine w_add ?_ | refine w_sub ?_ | refine w_lt ?_ | refine w_le ?_ | refine w_gt ?_ | refine w_ge ?_ | refine w_eqI ?_ | refine w_neI ?_)
local macro_rules | `(tactic| walk_at "gx") => `(tactic| repeat' first | walk_at "s1x" | walk_at "sv")
section
variable {K : PySem.W.Frag} {mg : Str → Option Value} {a : Ad} {vs : List V} {H : Hp} {Q : VK} {E : XK}
theorem ln_sum_of (h : sp_sum_of K a vs H Q E) : vs.length = 1 := by obtain ⟨p, b, rfl, _⟩ := h; rfl
theorem w_shrK {H : Hp} {i : Nat} {c : Int} (k : Nat) (e : c = (k : Int)) (q : Q (.int ((i / 2 ^ k : Nat) : Int)) H) : oShr (.int i) (.int c) H Q := by subst e; exact w_shr q
theorem w_andK {H : Hp} {i : Nat} {c : Int} (m : Nat) (e : c = 2 ^ m - 1) (q : Q (.int ((i % 2 ^ m : Nat) : Int)) H) : oAnd (.int i) (.int c) H Q := by
  have h1 := Nat.two_pow_pos m
  have h3 : ((2 ^ m : Nat) : Int) = (2 : Int) ^ m := by norm_cast
  have hk : c = ((2 ^ m - 1 : Nat) : Int) := by rw [e, ← h3]; omega
  subst hk
  exact w_and m (by rw [← h3]; omega) q
theorem w_xorK {H : Hp} {i : Nat} {c : Int} (k : Nat) (e : c = (k : Int)) (q : Q (.int ((i ^^^ k : Nat) : Int)) H) : oXor (.int i) (.int c) H Q := by subst e; exact w_xor q
theorem pure_sum_of (T : Tx K mg a) (h : sp_sum_of K a vs H Q E) : t_sum_of K a { nx := fun _ H' => Q .non H', rt := Q } (L2.start N_sum_of vs) H := by
  obtain ⟨p, b, rfl, hb, q⟩ := h
  unfold t_sum_of
  walk_at "go"
  refine w_ilist2 hb ?_
  have tab : ∀ c : Nat, atI [V.int 0, V.int 274646895, V.int 549293790, V.int 820201905, V.int 1098587580, V.int 1361435347, V.int 1640403810, V.int 1905808397, V.int 2197175160, V.int 2460548119, V.int 2722870694, V.int 2987750089, V.int 3280807620, V.int 3553878443, V.int 3811616794, V.int 4084100981] ((c % 2 ^ 4 : Nat) : Int) = some (V.int (Dm.four (c % 16) : Nat)) := fun c => by
    refine atI_nat ?_
    have e := Dm.tab_ok (c % 16) (Nat.mod_lt _ (by decide))
    have e2 := il_get e
    exact e2
  refine w_loop walk_list (fun i σ H' => H' = H ∧ ∃ v, σ = [some (.ref p), some (.int (((b.take i).foldl Fm08.sumByte 0xFFFFFFFF : Nat) : Int)), v]) ⟨rfl, _, rfl⟩ (fun i σ H' _ h => h.1 ▸ hb) ?_ ?_
  · rintro i x σ H' H'' hi ⟨rfl, v, rfl⟩ ⟨rfl, hx⟩
    have hi2 : i < b.length := by rw [il_len] at hi; exact hi
    obtain ⟨n, hn⟩ : ∃ n, b[i]? = some n := ⟨b[i], by simp [hi2]⟩
    rw [il_get hn] at hx
    cases hx
    walk_at "go"
    refine w_xor ?_
    walk_at "go"
    refine w_shrK 4 rfl ?_
    walk_at "go"
    refine w_andK 4 rfl ?_
    refine w_ixT (T.t_FOUR_STEPS _) (tab _) (w_xor ?_)
    walk_at "go"
    refine w_shrK 4 rfl ?_
    walk_at "go"
    refine w_andK 4 rfl ?_
    refine w_ixT (T.t_FOUR_STEPS _) (tab _) (w_xor ?_)
    walk_at "go"
    refine ⟨rfl, some (.int n), ?_⟩
    rw [List.take_add_one, hn, List.foldl_append]
    show _ = [some (V.ref p), some (V.int ((Fm08.sumByte ((b.take i).foldl Fm08.sumByte 0xFFFFFFFF) n : Nat) : Int)), some (V.int n)]
    rw [Dm.sumByte_four, Dm.four_eq, Dm.four_eq]
    rfl
  · rintro σ H' ⟨rfl, v, rfl⟩
    rw [il_len, List.take_length]
    walk_at "go"
    exact w_xorK 0xFFFFFFFF rfl q
end
end Dk
namespace Dk
open PySem PySem.Spec PyProof.Rows L2
local macro_rules | `(tactic| walk_at "s1") => `(tactic| with_reducible first
  | refine w_seq ?_ | refine w_asg ?_ | refine w_drop ?_ | refine w_ret ?_ | refine w_retN ?_ | refine w_next ?_ | refine w_if ?_ | refine w_c ?_ | refine w_op ?_ | refine w_un ?_
  | refine w_fld ?_ | refine w_sfld ?_ | refine w_meth ?_ | refine w_call ?_ | refine w_cons ?_ | refine w_nil ?_ | refine w_cb ?_ | refine w_gname ?_ | refine w_lst ?_ | refine w_tup ?_
  | refine w_sl ?_ | refine w_nopart ?_ | refine w_part ?_ | refine w_parti ?_ | refine w_bm ?_ | refine w_test ?_ | refine w_tB ?_ | refine w_not ?_ | refine w_and_t ?_ | refine w_or_t ?_ | refine w_andV ?_ | refine w_orV ?_
  | refine w_for ?_ | refine w_ilist ?_ | refine w_rng1 ?_ | refine w_rev ?_ | refine w_istr ?_ | refine w_istr2 ?_ | refine w_zip ?_ | refine w_enum ?_ | refine w_lc ?_ | refine w_break ?_ | refine w_cont ?_ | refine w_dnew ?_
  | refine w_make ?_ | refine w_bl ?_ | refine w_isN ?_ | refine w_notN ?_ | refine w_neg ?_
  | refine w_add ?_ | refine w_sub ?_ | refine w_lt ?_ | refine w_le ?_ | refine w_gt ?_ | refine w_ge ?_ | refine w_eqI ?_ | refine w_neI ?_)
local macro_rules | `(tactic| walk_at "sv") => `(tactic| ((with_reducible refine' w_var ?hh ?_); (case hh => exact rfl)))
local macro_rules | `(tactic| walk_at "st") => `(tactic| first | walk_at "s1" | walk_at "sv")
local macro_rules | `(tactic| walk_at "go") => `(tactic| repeat' walk_at "st")
local macro_rules | `(tactic| walk_at "s1x") => `(tactic| with_reducible first
  | refine w_seq ?_ | refine w_asg ?_ | refine w_drop ?_ | refine w_ret ?_ | refine w_retN ?_ | refine w_next ?_ | refine w_c ?_ | refine w_op ?_ | refine w_un ?_
  | refine w_fld ?_ | refine w_sfld ?_ | refine w_meth ?_ | refine w_call ?_ | refine w_cons ?_ | refine w_nil ?_ | refine w_cb ?_ | refine w_gname ?_ | refine w_lst ?_ | refine w_tup ?_
  | refine w_sl ?_ | refine w_nopart ?_ | refine w_part ?_ | refine w_parti ?_ | refine w_bm ?_ | refine w_test ?_ | refine w_tB ?_ | refine w_not ?_ | refine w_and_t ?_ | refine w_or_t ?_ | refine w_andV ?_ | refine w_orV ?_
  | refine w_for ?_ | refine w_ilist ?_ | refine w_rng1 ?_ | refine w_rev ?_ | refine w_istr ?_ | refine w_istr2 ?_ | refine w_zip ?_ | refine w_enum ?_ | refine w_lc ?_ | refine w_break ?_ | refine w_cont ?_ | refine w_dnew ?_
  | refine w_make ?_ | refine w_bl ?_ | refine w_isN ?_ | refine w_notN ?_ | refine w_neg ?_
  | refine w_add ?_ | refine w_sub ?_ | refine w_lt ?_ | refine w_le ?_ | refine w_gt ?_ | refine w_ge ?_ | refine w_eqI ?_ | refine w_neI ?_)
local macro_rules | `(tactic| walk_at "gx") => `(tactic| repeat' first | walk_at "s1x" | walk_at "sv")
section
variable {K : PySem.W.Frag} {mg : Str → Option Value} {a : Ad} {vs : List V} {H H0 : Hp} {Q : VK} {E : XK}
theorem x_ext {D q : Addr} {xs zs : List Nat} (s : Same H0 H) (n : H0 D = none) (h : LB H D xs) (h2 : LB H q zs) (l : xs.length + zs.length ≤ sizeLine) (k : ∀ H', Same H0 H' → LB H' D (xs ++ zs) → Q .non H') : rExtend (.ref D) [.ref q] H Q :=
  w_ext h h2 (by rw [il_len, il_len]; exact l) (k _ (fun b o e => by rw [upd_ne (ne_of_none e n)]; exact s b o e) (by show upd _ _ _ _ = _; rw [upd_same, il_app]))
theorem x_cat {p q : Addr} {xs zs : List Nat} (h : LB H p xs) (h2 : LB H q zs) (l : xs.length + zs.length ≤ sizeLine) (k : ∀ H' r, Same H H' → H r = none → LB H' r (xs ++ zs) → Q (.ref r) H') : rCat (.ref p) (.ref q) H Q :=
  w_cat h h2 (by rw [il_len, il_len]; exact l) fun r nr => k _ r (same_new nr) nr (by show upd _ _ _ _ = _; rw [upd_same, il_app])
theorem x_slice {p : Addr} {b : List Nat} {lo hi : Option Int} {c : List Nat} (h : SqL K H p (il b)) (e : cutV (il b) lo hi = il c) (k : ∀ H' r, Same H H' → H r = none → LB H' r c → Q (.ref r) H') : rSlL K (.ref p) lo hi H Q :=
  w_slL h fun r nr => k _ r (same_new nr) nr (by show upd _ _ _ _ = _; rw [upd_same, e])
theorem ln_letters (h : sp_letters K a vs H Q E) : vs.length = 1 := by obtain ⟨w, rfl, _⟩ := h; rfl
theorem pure_letters (T : Tx K mg a) (h : sp_letters K a vs H Q E) : t_letters K a { nx := fun _ H' => Q .non H', rt := Q } (L2.start N_letters vs) H := by
  obtain ⟨w, rfl, hl, q⟩ := h
  unfold t_letters
  walk_at "go"
  intro p np
  refine w_comp walk_str (fun i => V.int (w.cps.getD i 0 : Nat)) (Nat.le_trans hl (by decide)) np (fun _ _ => trivial) (fun i x H' H'' _ e => by rw [e.1]; exact Same.refl _) ?_ ?_
  · rintro i x H' H'' hi s ⟨rfl, c, hc, rfl⟩ R k
    walk_at "go"
    refine ⟨_, rfl, rfl, ?_⟩
    have e : w.cps.getD i 0 = c := by simp [Array.getD_eq_getD_getElem?, hc]
    have k2 := k H'' (Same.refl _)
    rw [e] at k2
    exact k2
  · intro H' s e
    refine q H' p s np (e.trans (congrArg (fun z => some (HO.lst z)) ?_))
    unfold il
    refine List.ext_getElem (by simp) fun i h1 h2 => ?_
    simp at h1
    simp [Array.getD_eq_getD_getElem?, h1]
theorem ln_number_bytes (h : sp_number_bytes K a vs H Q E) : vs.length = 2 := by obtain ⟨v, k, rfl, _⟩ := h; rfl
theorem pure_number_bytes (T : Tx K mg a) (h : sp_number_bytes K a vs H Q E) : t_number_bytes K a { nx := fun _ H' => Q .non H', rt := Q } (L2.start N_number_bytes vs) H := by
  obtain ⟨v, k, rfl, hk, q⟩ := h
  unfold t_number_bytes
  walk_at "go"
  refine w_rng1n (by omega) ?_
  intro p np
  refine w_comp walk_range (fun i => V.int ((v / 2 ^ (8 * i) % 2 ^ 8 : Nat) : Int)) (Nat.le_trans hk (by decide)) np (fun _ _ => trivial) (fun i x H' H'' _ e => by rw [e.1]; exact Same.refl _) ?_ ?_
  · rintro i x H' H'' hi s ⟨rfl, rfl⟩ R k
    walk_at "go"
    refine w_mulL (by decide) ?_
    refine w_shrK (8 * i) (by omega) ?_
    walk_at "go"
    exact w_andK 8 rfl (k H'' (Same.refl _))
  · intro H' s e
    refine q H' p s np (e.trans (congrArg (fun z => some (HO.lst z)) ?_))
    unfold il Fm08.little
    rw [List.map_map]
    refine List.map_congr_left fun i _ => ?_
    show _ = V.int ((v / 256 ^ i % 256 : Nat) : Int)
    rw [Dm.pow256]
theorem ln_number_at (h : sp_number_at K a vs H Q E) : vs.length = 3 := by obtain ⟨p, b, s, k, rfl, _⟩ := h; rfl
theorem cut_part (b : List Nat) (i j : Nat) : cutV (il b) (some (i : Int)) (some ((i : Int) + (j : Int))) = il (Fm08.part b i j) := by
  rw [show (i : Int) + (j : Int) = ((i + j : Nat) : Int) by omega, cut_nat, il_drop, il_take]
  unfold Fm08.part
  rw [show i + j - i = j by omega]
theorem pure_number_at (T : Tx K mg a) (h : sp_number_at K a vs H Q E) : t_number_at K a { nx := fun _ H' => Q .non H', rt := Q } (L2.start N_number_at vs) H := by
  obtain ⟨p, b, i0, k, rfl, hb, q⟩ := h
  unfold t_number_at
  walk_at "go"
  refine x_slice hb (cut_part b i0 k) fun H1 r s1 nr hr => ?_
  walk_at "go"
  refine w_rev2 hr.sq ?_
  refine w_loop walk_rev (fun i σ H' => H' = H1 ∧ ∃ v, σ = [some (.ref p), some (.int i0), some (.int k), some (.int ((((Fm08.part b i0 k).reverse.take i).foldl (fun n x => n * 256 + x) 0 : Nat) : Int)), v]) ⟨rfl, _, rfl⟩ (fun i σ H' _ h => h.1 ▸ hr.sq) ?_ ?_
  · rintro i x σ H' H'' hi ⟨rfl, v, rfl⟩ ⟨rfl, hx⟩
    rw [il_len] at hi hx
    obtain ⟨n, hn⟩ : ∃ n, (Fm08.part b i0 k)[(Fm08.part b i0 k).length - 1 - i]? = some n := ⟨(Fm08.part b i0 k)[(Fm08.part b i0 k).length - 1 - i]'(by omega), by rw [List.getElem?_eq_getElem]⟩
    rw [il_get hn] at hx
    cases hx
    have hr2 : (Fm08.part b i0 k).reverse[i]? = some n := by rw [List.getElem?_reverse hi]; exact hn
    walk_at "go"
    refine w_mulR (by decide) ?_
    walk_at "go"
    refine ⟨rfl, some (V.int n), ?_⟩
    rw [List.take_add_one, hr2, List.foldl_append]
    rfl
  · rintro σ H' ⟨rfl, v, rfl⟩
    rw [il_len, ← List.length_reverse (as := Fm08.part b i0 k), List.take_length, ← Dm.number_foldl]
    walk_at "go"
    exact q _ s1
theorem ln_shape_is_allowed (h : sp_shape_is_allowed K a vs H Q E) : vs.length = 2 := by obtain ⟨n, j, rfl, _⟩ := h; rfl
theorem shape_dec (n j : Int) : (decide (0 ≤ n) && (decide (0 ≤ j) && Fm08.shapeOk n.toNat j.toNat)) = decide (8 ≤ n ∧ n ≤ 4096 ∧ 4 ≤ j ∧ j + 3 ≤ n) := by
  unfold Fm08.shapeOk Fm08.LARGE
  by_cases h : 8 ≤ n ∧ n ≤ 4096 ∧ 4 ≤ j ∧ j + 3 ≤ n
  · rw [decide_eq_true h]
    simp only [Bool.and_eq_true, decide_eq_true_eq]
    omega
  · rw [decide_eq_false h, Bool.eq_false_iff]
    intro c
    simp only [Bool.and_eq_true, decide_eq_true_eq] at c
    omega
theorem ln_block_count_is_allowed (h : sp_block_count_is_allowed K a vs H Q E) : vs.length = 1 := by obtain ⟨n, rfl, _⟩ := h; rfl
theorem pure_block_count_is_allowed (T : Tx K mg a) (h : sp_block_count_is_allowed K a vs H Q E) : t_block_count_is_allowed K a { nx := fun _ H' => Q .non H', rt := Q } (L2.start N_block_count_is_allowed vs) H := by
  obtain ⟨n, rfl, q⟩ := h
  unfold t_block_count_is_allowed
  walk_at "go"
  refine w_dec (fun c1 => ?_) (fun c1 => ?_)
  · walk_at "go"
    have e : decide (8 ≤ n ∧ n ≤ 4096) = decide (n ≤ 4096) := decide_eq_decide.mpr (by omega)
    rw [e] at q
    exact q
  · rw [decide_eq_false (by omega)] at q
    exact q
theorem pure_shape_is_allowed (T : Tx K mg a) (h : sp_shape_is_allowed K a vs H Q E) : t_shape_is_allowed K a { nx := fun _ H' => Q .non H', rt := Q } (L2.start N_shape_is_allowed vs) H := by
  obtain ⟨n, j, rfl, q⟩ := h
  rw [shape_dec] at q
  unfold t_shape_is_allowed
  walk_at "go"
  refine ⟨n, rfl, ?_⟩
  walk_at "go"
  refine w_ndec (fun c1 => ?_) (fun c1 => ?_)
  · walk_at "go"
    rw [decide_eq_false (by omega)] at q
    exact q
  · walk_at "go"
    refine w_dec (fun c3 => ?_) (fun c3 => ?_)
    · walk_at "go"
      have e : decide (8 ≤ n ∧ n ≤ 4096 ∧ 4 ≤ j ∧ j + 3 ≤ n) = decide (j ≤ n - 3) := decide_eq_decide.mpr (by omega)
      rw [e] at q
      exact q
    · rw [decide_eq_false (by omega)] at q
      exact q
end
end Dk
namespace Dk
open PySem PySem.Spec PyProof.Rows L2
local macro_rules | `(tactic| walk_at "s1") => `(tactic| with_reducible first
  | refine w_seq ?_ | refine w_asg ?_ | refine w_drop ?_ | refine w_ret ?_ | refine w_retN ?_ | refine w_next ?_ | refine w_if ?_ | refine w_c ?_ | refine w_op ?_ | refine w_un ?_
  | refine w_fld ?_ | refine w_sfld ?_ | refine w_meth ?_ | refine w_call ?_ | refine w_cons ?_ | refine w_nil ?_ | refine w_cb ?_ | refine w_gname ?_ | refine w_lst ?_ | refine w_tup ?_
  | refine w_sl ?_ | refine w_nopart ?_ | refine w_part ?_ | refine w_parti ?_ | refine w_bm ?_ | refine w_test ?_ | refine w_tB ?_ | refine w_not ?_ | refine w_and_t ?_ | refine w_or_t ?_ | refine w_andV ?_ | refine w_orV ?_
  | refine w_for ?_ | refine w_ilist ?_ | refine w_rng1 ?_ | refine w_rev ?_ | refine w_istr ?_ | refine w_istr2 ?_ | refine w_zip ?_ | refine w_enum ?_ | refine w_lc ?_ | refine w_break ?_ | refine w_cont ?_ | refine w_dnew ?_
  | refine w_make ?_ | refine w_bl ?_ | refine w_isN ?_ | refine w_notN ?_ | refine w_neg ?_
  | refine w_add ?_ | refine w_sub ?_ | refine w_lt ?_ | refine w_le ?_ | refine w_gt ?_ | refine w_ge ?_ | refine w_eqI ?_ | refine w_neI ?_)
local macro_rules | `(tactic| walk_at "sv") => `(tactic| ((with_reducible refine' w_var ?hh ?_); (case hh => exact rfl)))
local macro_rules | `(tactic| walk_at "st") => `(tactic| first | walk_at "s1" | walk_at "sv")
local macro_rules | `(tactic| walk_at "go") => `(tactic| repeat' walk_at "st")
local macro_rules | `(tactic| walk_at "s1x") => `(tactic| with_reducible first
  | refine w_seq ?_ | refine w_asg ?_ | refine w_drop ?_ | refine w_ret ?_ | refine w_retN ?_ | refine w_next ?_ | refine w_c ?_ | refine w_op ?_ | refine w_un ?_
  | refine w_fld ?_ | refine w_sfld ?_ | refine w_meth ?_ | refine w_call ?_ | refine w_cons ?_ | refine w_nil ?_ | refine w_cb ?_ | refine w_gname ?_ | refine w_lst ?_ | refine w_tup ?_
  | refine w_sl ?_ | refine w_nopart ?_ | refine w_part ?_ | refine w_parti ?_ | refine w_bm ?_ | refine w_test ?_ | refine w_tB ?_ | refine w_not ?_ | refine w_and_t ?_ | refine w_or_t ?_ | refine w_andV ?_ | refine w_orV ?_
  | refine w_for ?_ | refine w_ilist ?_ | refine w_rng1 ?_ | refine w_rev ?_ | refine w_istr ?_ | refine w_istr2 ?_ | refine w_zip ?_ | refine w_enum ?_ | refine w_lc ?_ | refine w_break ?_ | refine w_cont ?_ | refine w_dnew ?_
  | refine w_make ?_ | refine w_bl ?_ | refine w_isN ?_ | refine w_notN ?_ | refine w_neg ?_
  | refine w_add ?_ | refine w_sub ?_ | refine w_lt ?_ | refine w_le ?_ | refine w_gt ?_ | refine w_ge ?_ | refine w_eqI ?_ | refine w_neI ?_)
local macro_rules | `(tactic| walk_at "gx") => `(tactic| repeat' first | walk_at "s1x" | walk_at "sv")
section
variable {K : PySem.W.Frag} {mg : Str → Option Value} {a : Ad} {vs : List V} {H H0 : Hp} {Q : VK} {E : XK} {σ : L2.St}
theorem x_extK {D q : Addr} {xs zs : List Nat} (h : LB H D xs) (h2 : LB H q zs) (l : xs.length + zs.length ≤ sizeLine) (k : ∀ H', Keep [D] H H' → LB H' D (xs ++ zs) → Q .non H') : rExtend (.ref D) [.ref q] H Q :=
  w_ext h h2 (by rw [il_len, il_len]; exact l) (k _ keep_upd (by show upd _ _ _ _ = _; rw [upd_same, il_app]))
theorem x_rep {p : Addr} {k : Int} (h : LB H p [0]) (l2 : k < 1000000) (l1 : -1000000000 < k) (q : ∀ H' r, Same H H' → H r = none → LB H' r (Fm08.zeros k.toNat) → Q (.ref r) H') : rRep (.ref p) (.int k) H Q :=
  w_rep h (by omega) (by omega) (by simp [il, sizeLine]; omega) fun r nr => q _ r (same_new nr) nr (by show upd _ _ _ _ = _; rw [upd_same]; exact congrArg (fun z => some (HO.lst z)) (il_rep k.toNat))
theorem w_gtup2 {T : Addr} {x y : V} {i j : Nat} {R : L2.St → Hp → Prop} (h : H T = some (.tup [x, y])) (q : R ((σ.set i (some x)).set j (some y)) H) : gTup K 2 (gCons (gName i) (gCons (gName j) gNil)) (.ref T) σ H R :=
  ⟨T, [x, y], rfl, .of h, rfl, x, [y], rfl, y, [], rfl, rfl, q⟩
def lsv (K : PySem.W.Frag) (x : V) (H : Hp) (Q : VK) : Prop := ∃ (l : Addr) (ns : List Int), x = .ref l ∧ SqL K H l (ns.map V.int) ∧ ns.length ≤ 4000 ∧ ∀ k : Nat, k ≤ ns.length → (k = ns.length ↔ ns.Nodup) → Q (.int k) H
theorem w_lenset {ta : TE} (h : ta σ H fun x H1 => lsv K x H1 Q) : tLenSet K ta σ H Q := h
theorem nodup_il (l : List Nat) : (l.map fun (n : Nat) => (n : Int)).Nodup ↔ l.Nodup := by
  constructor
  · intro h
    exact (List.pairwise_map.mp h).imp fun c e => c (by rw [e])
  · intro h
    exact List.pairwise_map.mpr (h.imp fun c e => c (by omega))
/-! ### the makings -/
theorem ln_Shape_init (h : sp_Shape_init K a vs H Q E) : vs.length = 3 := by obtain ⟨p, dx, n, j, rfl, _⟩ := h; rfl
theorem pure_Shape_init (T : Tx K mg a) (h : sp_Shape_init K a vs H Q E) : t_Shape_init K a { nx := fun _ H' => Q .non H', rt := Q } (L2.start N_Shape_init vs) H := by
  obtain ⟨p, dx, n, j, rfl, hp, q⟩ := h
  unfold t_Shape_init
  walk_at "go"
  refine ini_Shape_block_count T hp fun H1 h1 k1 => ?_
  walk_at "go"
  refine ini_Shape_place_count T h1 fun H2 h2 k2 => ?_
  walk_at "go"
  exact ini_Shape_home_count T h2 fun H3 h3 k3 => q H3 ⟨dx, h3⟩ ((k1.trans k2).trans k3)
theorem ln_Head_init (h : sp_Head_init K a vs H Q E) : vs.length = 5 := by obtain ⟨p, dx, v1, v2, v3, v4, rfl, _⟩ := h; rfl
theorem pure_Head_init (T : Tx K mg a) (h : sp_Head_init K a vs H Q E) : t_Head_init K a { nx := fun _ H' => Q .non H', rt := Q } (L2.start N_Head_init vs) H := by
  obtain ⟨p, dx, v1, v2, v3, v4, rfl, hp, q⟩ := h
  unfold t_Head_init
  walk_at "go"
  refine ini_Head_generation T hp fun H1 h1 k1 => ?_
  walk_at "go"
  refine ini_Head_shape T h1 fun H2 h2 k2 => ?_
  walk_at "go"
  refine ini_Head_number T h2 fun H3 h3 k3 => ?_
  walk_at "go"
  exact ini_Head_place T h3 fun H4 h4 k4 => q H4 ⟨dx, h4⟩ (((k1.trans k2).trans k3).trans k4)
theorem ln_Transaction_init (h : sp_Transaction_init K a vs H Q E) : vs.length = 3 := by obtain ⟨p, dx, v1, v2, rfl, _⟩ := h; rfl
theorem pure_Transaction_init (T : Tx K mg a) (h : sp_Transaction_init K a vs H Q E) : t_Transaction_init K a { nx := fun _ H' => Q .non H', rt := Q } (L2.start N_Transaction_init vs) H := by
  obtain ⟨p, dx, v1, v2, rfl, hp, q⟩ := h
  unfold t_Transaction_init
  walk_at "go"
  refine ini_Transaction_homes T hp fun H1 h1 k1 => ?_
  walk_at "go"
  exact ini_Transaction_blocks T h1 fun H2 h2 k2 => q H2 ⟨dx, h2⟩ (k1.trans k2)
theorem ln_Found_init (h : sp_Found_init K a vs H Q E) : vs.length = 4 := by obtain ⟨p, dx, v1, v2, v3, rfl, _⟩ := h; rfl
theorem pure_Found_init (T : Tx K mg a) (h : sp_Found_init K a vs H Q E) : t_Found_init K a { nx := fun _ H' => Q .non H', rt := Q } (L2.start N_Found_init vs) H := by
  obtain ⟨p, dx, v1, v2, v3, rfl, hp, q⟩ := h
  unfold t_Found_init
  walk_at "go"
  refine ini_Found_head T hp fun H1 h1 k1 => ?_
  walk_at "go"
  refine ini_Found_transactions T h1 fun H2 h2 k2 => ?_
  walk_at "go"
  exact ini_Found_place T h2 fun H3 h3 k3 => q H3 ⟨dx, h3⟩ ((k1.trans k2).trans k3)
theorem ln_Operation_init (h : sp_Operation_init K a vs H Q E) : vs.length = 4 := by obtain ⟨p, dx, v1, v2, v3, rfl, _⟩ := h; rfl
theorem pure_Operation_init (T : Tx K mg a) (h : sp_Operation_init K a vs H Q E) : t_Operation_init K a { nx := fun _ H' => Q .non H', rt := Q } (L2.start N_Operation_init vs) H := by
  obtain ⟨p, dx, v1, v2, v3, rfl, hp, q⟩ := h
  unfold t_Operation_init
  walk_at "go"
  refine ini_Operation_answer T hp fun H1 h1 k1 => ?_
  walk_at "go"
  refine ini_Operation_actions T h1 fun H2 h2 k2 => ?_
  walk_at "go"
  exact ini_Operation_known T h2 fun H3 h3 k3 => q H3 ⟨dx, h3⟩ ((k1.trans k2).trans k3)
/-! ### the block of a head -/
theorem tally_dsk : ("TALLYDSK" : Str).cps.toList = Fm08.ascii "TALLYDSK" := by rw [Dm.ascii_head]; decide +kernel
theorem tally_txn : ("TALLYTXN" : Str).cps.toList = Fm08.ascii "TALLYTXN" := by rw [Dm.ascii_txn]; decide +kernel
theorem ln_head_block (h : sp_head_block K a vs H Q E) : vs.length = 1 := by obtain ⟨p, h, rfl, _⟩ := h; rfl
theorem pure_head_block (T : Tx K mg a) (h : sp_head_block K a vs H Q E) : t_head_block K a { nx := fun _ H' => Q .non H', rt := Q } (L2.start N_head_block vs) H := by
  obtain ⟨p, h, rfl, ⟨sp, ho, hs⟩, q⟩ := h
  unfold t_head_block
  walk_at "go"
  refine ⟨_, rfl, by decide, fun H1 D1 s1 n1 b1 => ?_⟩
  walk_at "go"
  refine g_Head_generation T (ho.mono s1) ?_
  walk_at "go"
  refine ⟨h.gen, 8, rfl, by decide, fun H2 D2 s2 n2 b2 => ?_⟩
  refine x_cat (b1.mono s2) b2 (by simp [Dm.little_len]; decide) fun H3 D s3 n3 b3 => ?_
  have nD : H D = none := (s1.trans s2).free n3
  have s : Same H H3 := (s1.trans s2).trans s3
  clear s1 s2 s3 b1 b2 n1 n2 n3
  walk_at "go"
  refine w_tyl b3 ?_
  walk_at "go"
  refine g_Head_shape T (ho.mono s) (g_Shape_block_count T (hs.mono s) ?_)
  walk_at "go"
  refine ⟨h.n, 4, rfl, by decide, fun H4 D4 s4 n4 b4 => ?_⟩
  walk_at "go"
  refine x_ext (s.trans s4) nD (b3.mono s4) b4 (by simp [Dm.little_len]; decide) fun H5 s5 b5 => ?_
  clear s s4 b3 b4 n4
  walk_at "go"
  refine w_tyl b5 ?_
  walk_at "go"
  refine g_Head_shape T (ho.mono s5) (g_Shape_place_count T (hs.mono s5) ?_)
  walk_at "go"
  refine ⟨h.j, 4, rfl, by decide, fun H6 D6 s6 n6 b6 => ?_⟩
  walk_at "go"
  refine x_ext (s5.trans s6) nD (b5.mono s6) b6 (by simp [Dm.little_len]; decide) fun H7 s7 b7 => ?_
  clear s5 s6 b5 b6 n6
  walk_at "go"
  refine w_tyl b7 ?_
  walk_at "go"
  refine g_Head_number T (ho.mono s7) ?_
  walk_at "go"
  refine ⟨h.next, 8, rfl, by decide, fun H8 D8 s8 n8 b8 => ?_⟩
  walk_at "go"
  refine x_ext (s7.trans s8) nD (b7.mono s8) b8 (by simp [Dm.little_len]; decide) fun H9 s9 b9 => ?_
  clear s7 s8 b7 b8 n8
  walk_at "go"
  refine w_tyl b9 ?_
  walk_at "go"
  refine g_Head_place T (ho.mono s9) ?_
  walk_at "go"
  refine ⟨h.place, 4, rfl, by decide, fun H10 D10 s10 n10 b10 => ?_⟩
  walk_at "go"
  refine x_ext (s9.trans s10) nD (b9.mono s10) b10 (by simp [Dm.little_len]; decide) fun H11 s11 b11 => ?_
  clear s9 s10 b9 b10 n10
  walk_at "go"
  refine w_tyl b11 ?_
  walk_at "go"
  refine ⟨by decide, fun Z nZ => ?_⟩
  have sZ := same_new (o := .lst [V.int 0]) nZ
  walk_at "go"
  refine w_len (b11.mono sZ).sq ?_
  walk_at "go"
  refine x_rep (show LB (upd H11 Z (.lst [V.int 0])) Z [0] from upd_same) (by rw [il_len]; omega) (by rw [il_len]; simp [Dm.little_len]; decide) fun H12 D12 s12 n12 b12 => ?_
  walk_at "go"
  walk_at "go"
  refine x_ext ((s11.trans sZ).trans s12) nD ((b11.mono sZ).mono s12) b12 (by rw [tally_dsk, Dm.ascii_head]; simp [Dm.little_len, Fm08.zeros, sizeLine]; omega) fun H13 s13 b13 => ?_
  clear sZ s12 n12 b12 s11 b11
  have b14 : LB H13 D (Dm.headData h) := by
    refine Eq.mp (congrArg (LB H13 D) ?_) b13
    unfold Dm.headData Fm08.filled
    rw [← tally_dsk]
    simp only [List.append_assoc, il_len, List.length_append, Dm.little_len]
    congr 7
  clear b13
  walk_at "go"
  refine ⟨D, _, rfl, b14.sq, ?_⟩
  walk_at "go"
  refine ⟨_, 4, rfl, by decide, fun H15 D15 s15 n15 b15 => ?_⟩
  walk_at "go"
  refine x_cat (b14.mono s15) b15 (by simp [Dm.little_len, Dm.headData_len]; decide) fun H16 D16 s16 n16 b16 => ?_
  walk_at "go"
  refine g_Head_generation T (ho.mono ((s13.trans s15).trans s16)) ?_
  walk_at "go"
  refine ⟨h.gen, 8, rfl, by decide, fun H17 D17 s17 n17 b17 => ?_⟩
  walk_at "go"
  refine x_cat (b16.mono s17) b17 (by simp [Dm.little_len, Dm.headData_len]; decide) fun H18 D18 s18 n18 b18 => ?_
  refine q H18 D18 ((((s13.trans s15).trans s16).trans s17).trans s18) ((((s13.trans s15).trans s16).trans s17).free n18) ?_
  rw [Dm.head_bytes, ← List.append_assoc]
  exact b18
end
end Dk
namespace Dk
open PySem PySem.Spec PyProof.Rows L2
local macro_rules | `(tactic| walk_at "s1") => `(tactic| with_reducible first
  | refine w_seq ?_ | refine w_asg ?_ | refine w_drop ?_ | refine w_ret ?_ | refine w_retN ?_ | refine w_next ?_ | refine w_if ?_ | refine w_c ?_ | refine w_op ?_ | refine w_un ?_
  | refine w_fld ?_ | refine w_sfld ?_ | refine w_meth ?_ | refine w_call ?_ | refine w_cons ?_ | refine w_nil ?_ | refine w_cb ?_ | refine w_gname ?_ | refine w_lst ?_ | refine w_tup ?_
  | refine w_sl ?_ | refine w_nopart ?_ | refine w_part ?_ | refine w_parti ?_ | refine w_bm ?_ | refine w_test ?_ | refine w_tB ?_ | refine w_not ?_ | refine w_and_t ?_ | refine w_or_t ?_ | refine w_andV ?_ | refine w_orV ?_
  | refine w_for ?_ | refine w_ilist ?_ | refine w_rng1 ?_ | refine w_rev ?_ | refine w_istr ?_ | refine w_istr2 ?_ | refine w_zip ?_ | refine w_enum ?_ | refine w_lc ?_ | refine w_break ?_ | refine w_cont ?_ | refine w_dnew ?_
  | refine w_make ?_ | refine w_bl ?_ | refine w_isN ?_ | refine w_notN ?_ | refine w_neg ?_
  | refine w_add ?_ | refine w_sub ?_ | refine w_lt ?_ | refine w_le ?_ | refine w_gt ?_ | refine w_ge ?_ | refine w_eqI ?_ | refine w_neI ?_)
local macro_rules | `(tactic| walk_at "sv") => `(tactic| ((with_reducible refine' w_var ?hh ?_); (case hh => exact rfl)))
local macro_rules | `(tactic| walk_at "st") => `(tactic| first | walk_at "s1" | walk_at "sv")
local macro_rules | `(tactic| walk_at "go") => `(tactic| repeat' walk_at "st")
local macro_rules | `(tactic| walk_at "s1x") => `(tactic| with_reducible first
  | refine w_seq ?_ | refine w_asg ?_ | refine w_drop ?_ | refine w_ret ?_ | refine w_retN ?_ | refine w_next ?_ | refine w_c ?_ | refine w_op ?_ | refine w_un ?_
  | refine w_fld ?_ | refine w_sfld ?_ | refine w_meth ?_ | refine w_call ?_ | refine w_cons ?_ | refine w_nil ?_ | refine w_cb ?_ | refine w_gname ?_ | refine w_lst ?_ | refine w_tup ?_
  | refine w_sl ?_ | refine w_nopart ?_ | refine w_part ?_ | refine w_parti ?_ | refine w_bm ?_ | refine w_test ?_ | refine w_tB ?_ | refine w_not ?_ | refine w_and_t ?_ | refine w_or_t ?_ | refine w_andV ?_ | refine w_orV ?_
  | refine w_for ?_ | refine w_ilist ?_ | refine w_rng1 ?_ | refine w_rev ?_ | refine w_istr ?_ | refine w_istr2 ?_ | refine w_zip ?_ | refine w_enum ?_ | refine w_lc ?_ | refine w_break ?_ | refine w_cont ?_ | refine w_dnew ?_
  | refine w_make ?_ | refine w_bl ?_ | refine w_isN ?_ | refine w_notN ?_ | refine w_neg ?_
  | refine w_add ?_ | refine w_sub ?_ | refine w_lt ?_ | refine w_le ?_ | refine w_gt ?_ | refine w_ge ?_ | refine w_eqI ?_ | refine w_neI ?_)
local macro_rules | `(tactic| walk_at "gx") => `(tactic| repeat' first | walk_at "s1x" | walk_at "sv")
/-! ### lists of numbers, and lists of these, as data: == is equality -/
def dI (b : List Nat) : PyData := .list (b.map fun (n : Nat) => .int (n : Int))
def dII (m : List (List Nat)) : PyData := .list (m.map dI)
theorem eqvAll_ints : ∀ b c : List Nat, PyData.eqvAll (b.map fun (n : Nat) => PyData.int (n : Int)) (c.map fun (n : Nat) => PyData.int (n : Int)) = decide (b = c)
  | [], [] => by simp [PyData.eqvAll]
  | [], _ :: _ => by simp [PyData.eqvAll]
  | _ :: _, [] => by simp [PyData.eqvAll]
  | x :: b, y :: c => by
    rw [List.map_cons, List.map_cons, PyData.eqvAll, eqvAll_ints b c, PyData.eqv]
    by_cases h : x = y
    · subst h; simp
    · have h2 : ((x : Int) == (y : Int)) = false := beq_eq_false_iff_ne.mpr fun e => h (by omega)
      rw [h2]; simp [h]
theorem eqv_dI (b c : List Nat) : PyData.eqv (dI b) (dI c) = decide (b = c) := by unfold dI; rw [PyData.eqv]; exact eqvAll_ints b c
theorem eqvAll_dI : ∀ m k : List (List Nat), PyData.eqvAll (m.map dI) (k.map dI) = decide (m = k)
  | [], [] => by simp [PyData.eqvAll]
  | [], _ :: _ => by simp [PyData.eqvAll]
  | _ :: _, [] => by simp [PyData.eqvAll]
  | x :: b, y :: c => by
    rw [List.map_cons, List.map_cons, PyData.eqvAll, eqvAll_dI b c, eqv_dI]
    by_cases h : x = y
    · subst h; simp
    · simp [h]
theorem eqv_dII (m k : List (List Nat)) : PyData.eqv (dII m) (dII k) = decide (m = k) := by unfold dII; rw [PyData.eqv]; exact eqvAll_dI m k
theorem lay_ints : ∀ b : List Nat, PyData.canLayAll0 (b.map fun (n : Nat) => PyData.int (n : Int)) = true ∧ PyData.depthAll (b.map fun (n : Nat) => PyData.int (n : Int)) = 0
  | [] => by simp [PyData.canLayAll0, PyData.depthAll]
  | x :: b => by simp [PyData.canLayAll0, PyData.depthAll, PyData.canLay0, PyData.depth, (lay_ints b).1, (lay_ints b).2]
theorem lay_dI (b : List Nat) : (dI b).canLay0 = true ∧ (dI b).depth = 1 := by simp [dI, PyData.canLay0, PyData.depth, (lay_ints b).1, (lay_ints b).2]
theorem lay_dIs : ∀ m : List (List Nat), PyData.canLayAll0 (m.map dI) = true ∧ PyData.depthAll (m.map dI) ≤ 1
  | [] => by simp [PyData.canLayAll0, PyData.depthAll]
  | x :: b => by
    have h := lay_dIs b
    simp [PyData.canLayAll0, PyData.depthAll, (lay_dI x).1, (lay_dI x).2, h.1]
    omega
theorem shaped_dI (b : List Nat) : SeqAt.shaped (dI b) = true := by unfold SeqAt.shaped; simp [(lay_dI b).1, (lay_dI b).2]
theorem shaped_dII (m : List (List Nat)) : SeqAt.shaped (dII m) = true := by
  have h := lay_dIs m
  have e : (dII m).canLay0 = true ∧ (dII m).depth ≤ 2 := by simp [dII, PyData.canLay0, PyData.depth, h.1]; omega
  unfold SeqAt.shaped
  rw [e.1, decide_eq_true (show (dII m).depth ≤ 64 by omega)]; rfl
section
variable {K : PySem.W.Frag} {mg : Str → Option Value} {a : Ad} {vs : List V} {H H0 : Hp} {Q : VK} {E : XK} {σ : L2.St}
theorem dp_all : ∀ b : List Nat, DpAll K H (il b) (b.map fun (n : Nat) => PyData.int (n : Int))
  | [] => .nil
  | x :: b => .cons (.int _) (dp_all b)
theorem dp_LB {p : Addr} {b : List Nat} (h : SqL K H p (il b)) : Dp K H (.ref p) (dI b) := .lst h (dp_all b)
theorem dp_Al : ∀ {as : List Addr} {m : List (List Nat)}, Al (LB H) as m → DpAll K H (as.map V.ref) (m.map dI)
  | [], [], _ => .nil
  | _ :: _, _ :: _, h => .cons (dp_LB h.1.sq) (dp_Al h.2)
  | [], _ :: _, h => h.elim
  | _ :: _, [], h => h.elim
theorem dp_LBs {p : Addr} {m : List (List Nat)} (h : LBs H p m) : Dp K H (.ref p) (dII m) := by
  obtain ⟨as, h1, h2⟩ := h
  exact .lst (.of h1) (dp_Al h2)
theorem w_neB {p q : Addr} {b c : List Nat} (h : SqL K H p (il b)) (h2 : SqL K H q (il c)) (k : Q (.bl (!decide (b = c))) H) : rNeD K (.ref p) (.ref q) H Q := ⟨dI b, dI c, dp_LB h, dp_LB h2, shaped_dI b, shaped_dI c, by rw [eqv_dI]; exact k⟩
theorem w_eqB {p q : Addr} {b c : List Nat} (h : SqL K H p (il b)) (h2 : SqL K H q (il c)) (k : Q (.bl (decide (b = c))) H) : rEqD K (.ref p) (.ref q) H Q := ⟨dI b, dI c, dp_LB h, dp_LB h2, shaped_dI b, shaped_dI c, by rw [eqv_dI]; exact k⟩
theorem w_eqBs {p q : Addr} {b c : List (List Nat)} (h : LBs H p b) (h2 : LBs H q c) (k : Q (.bl (decide (b = c))) H) : rEqD K (.ref p) (.ref q) H Q := ⟨dII b, dII c, dp_LBs h, dp_LBs h2, shaped_dII b, shaped_dII c, by rw [eqv_dII]; exact k⟩
theorem w_modK {i : Nat} {c : Int} (j : Nat) (e : c = (j : Int)) (h : j ≠ 0) (q : Q (.int ((i % j : Nat) : Int)) H) : oMod (.int i) (.int c) H Q := by subst e; exact w_mod h q
theorem w_divK {i : Nat} {c : Int} (j : Nat) (e : c = (j : Int)) (h : j ≠ 0) (h2 : j < 1073741824) (q : Q (.int ((i / j : Nat) : Int)) H) : oDiv (.int i) (.int c) H Q := by subst e; exact w_div h h2 q
/-! ### homes -/
theorem ln_homes_are_allowed (h : sp_homes_are_allowed K a vs H Q E) : vs.length = 2 := by obtain ⟨p, l, n, rfl, _⟩ := h; rfl
theorem max_all {l : List Nat} {h : Int} {m : Int} (hm : m ∈ l.map fun (n : Nat) => (n : Int)) (hl : ∀ y ∈ l.map (fun (n : Nat) => (n : Int)), y ≤ m) : decide (m < h) = l.all fun x => decide ((x : Int) < h) := by
  by_cases c : m < h
  · rw [decide_eq_true c]
    refine (List.all_eq_true.mpr fun x hx => decide_eq_true ?_).symm
    have := hl x (List.mem_map.mpr ⟨x, hx, rfl⟩)
    omega
  · rw [decide_eq_false c]
    refine (List.all_eq_false.mpr ?_).symm
    obtain ⟨x, hx, e⟩ := List.mem_map.mp hm
    exact ⟨x, hx, by simp; omega⟩
theorem pure_homes_are_allowed (T : Tx K mg a) (h : sp_homes_are_allowed K a vs H Q E) : t_homes_are_allowed K a { nx := fun _ H' => Q .non H', rt := Q } (L2.start N_homes_are_allowed vs) H := by
  obtain ⟨p, l, hc, rfl, hp, hl, q⟩ := h
  unfold Dm.homesOk at q
  unfold t_homes_are_allowed
  walk_at "go"
  refine w_len hp ?_
  rw [il_len]
  walk_at "go"
  refine w_dec (fun c1 => ?_) (fun c1 => ?_)
  · walk_at "go"
    rw [decide_eq_false (show ¬ 1 ≤ l.length by omega)] at q
    exact q
  · walk_at "go"
    refine w_len hp ?_
    rw [il_len]
    walk_at "go"
    refine w_dec (fun c2 => ?_) (fun c2 => ?_)
    · walk_at "go"
      rw [decide_eq_true (show 1 ≤ l.length by omega), decide_eq_false (show ¬ l.length ≤ 30 by omega)] at q
      exact q
    · rw [decide_eq_true (show 1 ≤ l.length by omega), decide_eq_true (show l.length ≤ 30 by omega), Bool.true_and, Bool.true_and] at q
      walk_at "go"
      refine w_lenset ?_
      walk_at "go"
      refine ⟨p, l.map fun (n : Nat) => (n : Int), rfl, by rw [← il_map]; exact hp, by simp; omega, fun k hk hn => ?_⟩
      rw [List.length_map, nodup_il] at hn
      walk_at "go"
      refine w_len hp ?_
      rw [il_len]
      walk_at "go"
      refine w_dec (fun c3 => ?_) (fun c3 => ?_)
      · rw [decide_eq_true (hn.mp (by omega)), Bool.true_and] at q
        walk_at "go"
        refine ⟨p, l.map fun (n : Nat) => (n : Int), rfl, by rw [← il_map]; exact hp, by simp; omega, fun m hm hle => ?_⟩
        walk_at "go"
        rw [max_all hm hle]
        exact q
      · rw [decide_eq_false (fun z => c3 (by rw [hn.mpr z])), Bool.false_and] at q
        exact q
/-! ### a head in its block -/
theorem ln_head_in (h : sp_head_in K a vs H Q E) : vs.length = 2 := by obtain ⟨p, i, m, rfl, _⟩ := h; rfl
theorem pure_head_in (T : Tx K mg a) (h : sp_head_in K a vs H Q E) : t_head_in K a { nx := fun _ H' => Q .non H', rt := Q } (L2.start N_head_in vs) H := by
  obtain ⟨p, i, m, rfl, ⟨as, hp, hm⟩, hi, hz, qn, qs⟩ := h
  obtain ⟨b, hb⟩ : ∃ b, m[i]? = some b := ⟨m[i], by simp [hi]⟩
  obtain ⟨ba, hba, hB⟩ := hm.get2 hb
  have eb : m.getD i [] = b := by rw [List.getD_eq_getElem?_getD, hb]; rfl
  unfold Fm08.headAt at qn qs
  rw [eb] at qn qs
  dsimp only at qn qs
  unfold t_head_in
  walk_at "go"
  refine w_ixL (.of hp) (atI_nat (show (as.map V.ref)[i]? = some (V.ref ba) by simp [hba])) ?_
  walk_at "go"
  refine ⟨ba, b, 16, 4, rfl, hB.sq, fun H1 s1 => ?_⟩
  walk_at "go"
  refine ⟨ba, b, 20, 4, rfl, (hB.mono s1).sq, fun H2 s2 => ?_⟩
  walk_at "go"
  refine mk_Shape fun S H3 s3 nS oS => ?_
  have s : Same H H3 := (s1.trans s2).trans s3
  clear s1 s2 s3
  walk_at "go"
  refine ⟨ba, b, 8, 8, rfl, (hB.mono s).sq, fun H4 s4 => ?_⟩
  walk_at "go"
  refine ⟨ba, b, 24, 8, rfl, ((hB.mono s).mono s4).sq, fun H5 s5 => ?_⟩
  walk_at "go"
  refine ⟨ba, b, 32, 4, rfl, (((hB.mono s).mono s4).mono s5).sq, fun H6 s6 => ?_⟩
  walk_at "go"
  refine mk_Head fun D H7 s7 nD oD => ?_
  have t : Same H H7 := (((s.trans s4).trans s5).trans s6).trans s7
  have oS7 : O_Shape a H7 S _ _ _ := ((((oS.mono s4).mono s5).mono s6).mono s7)
  have nD0 : H D = none := (((s.trans s4).trans s5).trans s6).free nD
  clear s4 s5 s6 s7 oS s nS nD
  have ho : O_Head a H7 D (.int (Fm08.headOf b).gen) (.ref S) (.int (Fm08.headOf b).next) (.int (Fm08.headOf b).place) := oD
  have hs : ShapeAt a H7 S (Fm08.headOf b).n (Fm08.headOf b).j := oS7
  clear oD oS7
  generalize Fm08.headOf b = hd at *
  walk_at "go"
  refine g_Head_generation T ho ?_
  walk_at "go"
  refine w_modK 2 rfl (by decide) ?_
  walk_at "go"
  refine w_ndec (fun c1 => ?_) (fun c1 => ?_)
  · walk_at "go"
    exact qn (if_neg fun z => c1 (by rw [z.1])) H7 t
  walk_at "go"
  refine g_Head_generation T ho ?_
  walk_at "go"
  refine w_dec (fun c2 => ?_) (fun c2 => ?_)
  · walk_at "go"
    exact qn (if_neg fun z => by have := z.2.2.2.2.1; unfold Fm08.HIGH at this; omega) H7 t
  walk_at "go"
  refine g_Shape_block_count T hs ?_
  walk_at "go"
  refine w_len (.of (t _ _ hp)) ?_
  walk_at "go"
  rw [List.length_map, hm.len]
  refine w_ndec (fun c3 => ?_) (fun c3 => ?_)
  · walk_at "go"
    exact qn (if_neg fun z => c3 (by rw [z.2.1])) H7 t
  walk_at "go"
  refine g_Shape_block_count T hs ?_
  walk_at "go"
  refine g_Shape_place_count T hs ?_
  walk_at "go"
  refine ⟨_, _, rfl, ?_⟩
  rw [Int.toNat_natCast, Int.toNat_natCast, decide_eq_true (show (0 : Int) ≤ (hd.n : Int) by omega), decide_eq_true (show (0 : Int) ≤ (hd.j : Int) by omega), Bool.true_and, Bool.true_and]
  walk_at "go"
  walk_at "go"
  refine w_bool (fun c4 => ?_) (fun c4 => ?_)
  · walk_at "go"
    exact qn (if_neg fun z => by rw [z.2.2.1] at c4; exact absurd c4 (by decide)) H7 t
  walk_at "go"
  refine g_Head_number T ho ?_
  walk_at "go"
  refine w_dec (fun c5 => ?_) (fun c5 => ?_)
  · walk_at "go"
    exact qn (if_neg fun z => by have := z.2.2.2.2.2.1; unfold Fm08.HIGH at this; omega) H7 t
  walk_at "go"
  refine g_Head_place T ho ?_
  walk_at "go"
  refine g_Shape_place_count T hs ?_
  walk_at "go"
  refine w_dec (fun c6 => ?_) (fun c6 => ?_)
  · walk_at "go"
    exact qn (if_neg fun z => by have := z.2.2.2.1; omega) H7 t
  walk_at "go"
  refine ⟨D, hd, rfl, ⟨S, ho, hs⟩, fun H8 r s8 nr br => ?_⟩
  walk_at "go"
  refine w_neB br.sq ((hB.mono t).mono s8).sq ?_
  walk_at "go"
  refine w_ndec (fun c7 => ?_) (fun c7 => ?_)
  · walk_at "go"
    exact qn (if_neg fun z => c7 z.2.2.2.2.2.2.symm) H8 (t.trans s8)
  walk_at "go"
  refine qs hd (if_pos ⟨by omega, by omega, by simpa using c4, by omega, by unfold Fm08.HIGH; omega, by unfold Fm08.HIGH; omega, c7.symm⟩) H8 D (t.trans s8) nD0 ⟨S, ho.mono s8, hs.mono s8⟩
end
end Dk
namespace Dk
open PySem PySem.Spec PyProof.Rows L2
local macro_rules | `(tactic| walk_at "s1") => `(tactic| with_reducible first
  | refine w_seq ?_ | refine w_asg ?_ | refine w_drop ?_ | refine w_ret ?_ | refine w_retN ?_ | refine w_next ?_ | refine w_if ?_ | refine w_c ?_ | refine w_op ?_ | refine w_un ?_
  | refine w_fld ?_ | refine w_sfld ?_ | refine w_meth ?_ | refine w_call ?_ | refine w_cons ?_ | refine w_nil ?_ | refine w_cb ?_ | refine w_gname ?_ | refine w_lst ?_ | refine w_tup ?_
  | refine w_sl ?_ | refine w_nopart ?_ | refine w_part ?_ | refine w_parti ?_ | refine w_bm ?_ | refine w_test ?_ | refine w_tB ?_ | refine w_not ?_ | refine w_and_t ?_ | refine w_or_t ?_ | refine w_andV ?_ | refine w_orV ?_
  | refine w_for ?_ | refine w_ilist ?_ | refine w_rng1 ?_ | refine w_rev ?_ | refine w_istr ?_ | refine w_istr2 ?_ | refine w_zip ?_ | refine w_enum ?_ | refine w_lc ?_ | refine w_break ?_ | refine w_cont ?_ | refine w_dnew ?_
  | refine w_make ?_ | refine w_bl ?_ | refine w_isN ?_ | refine w_notN ?_ | refine w_neg ?_
  | refine w_add ?_ | refine w_sub ?_ | refine w_lt ?_ | refine w_le ?_ | refine w_gt ?_ | refine w_ge ?_ | refine w_eqI ?_ | refine w_neI ?_)
local macro_rules | `(tactic| walk_at "sv") => `(tactic| ((with_reducible refine' w_var ?hh ?_); (case hh => exact rfl)))
local macro_rules | `(tactic| walk_at "st") => `(tactic| first | walk_at "s1" | walk_at "sv")
local macro_rules | `(tactic| walk_at "go") => `(tactic| repeat' walk_at "st")
local macro_rules | `(tactic| walk_at "s1x") => `(tactic| with_reducible first
  | refine w_seq ?_ | refine w_asg ?_ | refine w_drop ?_ | refine w_ret ?_ | refine w_retN ?_ | refine w_next ?_ | refine w_c ?_ | refine w_op ?_ | refine w_un ?_
  | refine w_fld ?_ | refine w_sfld ?_ | refine w_meth ?_ | refine w_call ?_ | refine w_cons ?_ | refine w_nil ?_ | refine w_cb ?_ | refine w_gname ?_ | refine w_lst ?_ | refine w_tup ?_
  | refine w_sl ?_ | refine w_nopart ?_ | refine w_part ?_ | refine w_parti ?_ | refine w_bm ?_ | refine w_test ?_ | refine w_tB ?_ | refine w_not ?_ | refine w_and_t ?_ | refine w_or_t ?_ | refine w_andV ?_ | refine w_orV ?_
  | refine w_for ?_ | refine w_ilist ?_ | refine w_rng1 ?_ | refine w_rev ?_ | refine w_istr ?_ | refine w_istr2 ?_ | refine w_zip ?_ | refine w_enum ?_ | refine w_lc ?_ | refine w_break ?_ | refine w_cont ?_ | refine w_dnew ?_
  | refine w_make ?_ | refine w_bl ?_ | refine w_isN ?_ | refine w_notN ?_ | refine w_neg ?_
  | refine w_add ?_ | refine w_sub ?_ | refine w_lt ?_ | refine w_le ?_ | refine w_gt ?_ | refine w_ge ?_ | refine w_eqI ?_ | refine w_neI ?_)
local macro_rules | `(tactic| walk_at "gx") => `(tactic| repeat' first | walk_at "s1x" | walk_at "sv")
section
variable {K : PySem.W.Frag} {mg : Str → Option Value} {a : Ad} {vs : List V} {H H0 : Hp} {Q : VK} {E : XK} {σ : L2.St}
theorem x_appK {D : Addr} {xs : List V} {y : V} (h : H D = some (.lst xs)) (l : xs.length < sizeLine) (k : ∀ H', Keep [D] H H' → H' D = some (.lst (xs ++ [y])) → Q .non H') : rAppend (.ref D) [y] H Q := w_app h l (k _ keep_upd upd_same)
theorem LB.keep {H' : Hp} {p D : Addr} {b : List Nat} (k : Keep [D] H H') (n : p ≠ D) (h : LB H p b) : LB H' p b := k _ _ h (by simpa using n)
theorem Al.keep {H' : Hp} {D : Addr} (k : Keep [D] H H') : ∀ {as : List Addr} {m : List (List Nat)}, D ∉ as → Al (LB H) as m → Al (LB H') as m
  | [], [], _, _ => trivial
  | x :: as, _ :: m, n, h => ⟨h.1.keep k (fun e => n (by rw [e]; simp)), Al.keep k (as := as) (m := m) (fun e => n (by simp [e])) h.2⟩
  | [], _ :: _, _, h => h.elim
  | _ :: _, [], _, h => h.elim
theorem Al.sameB {H' : Hp} (s : Same H H') {as : List Addr} {m : List (List Nat)} (h : Al (LB H) as m) : Al (LB H') as m := h.imp fun _ _ k => k.mono s
theorem zeros_len (n : Nat) : (Fm08.zeros n).length = n := by simp [Fm08.zeros]
def entryOf (x : Nat × Fm08.Bytes) : Fm08.Bytes := Fm08.little 4 x.1 ++ (Fm08.little 4 (Fm08.sum x.2) ++ x.2.drop 504)
def otherOf (s : Nat) (x : Nat × Fm08.Bytes) : Fm08.Bytes := x.2.take 504 ++ Fm08.little 8 s
def txnHead (s : Nat) (t : Fm08.Txn) : Fm08.Bytes := Fm08.ascii "TALLYTXN" ++ Fm08.little 8 s ++ (Fm08.little 4 t.length ++ Fm08.zeros 4)
theorem txnHead_len (s : Nat) (t : Fm08.Txn) : (txnHead s t).length = 24 := by unfold txnHead; rw [Dm.ascii_txn]; simp [Dm.little_len, Fm08.zeros]
theorem desc_eq (s : Nat) (t : Fm08.Txn) : Fm08.descriptor s t = (txnHead s t ++ t.flatMap entryOf) ++ (Fm08.zeros (504 - (txnHead s t ++ t.flatMap entryOf).length) ++ Fm08.little 8 s) := by
  unfold Fm08.descriptor Fm08.filled txnHead
  simp only [List.append_assoc]
  rfl
theorem pieces_eq (s : Nat) (t : Fm08.Txn) : Fm08.pieces s t = Fm08.descriptor s t :: t.map (otherOf s) := rfl
theorem flat_len (l : Fm08.Txn) (h : ∀ x ∈ l, x.2.length ≤ 1000) : (l.flatMap entryOf).length ≤ 1008 * l.length := by
  induction l with
  | nil => simp
  | cons x l ih =>
    have h1 := ih fun y m => h y (by simp [m])
    have h2 := h x (by simp)
    have h3 : (entryOf x).length = 8 + (x.2.length - 504) := by unfold entryOf; simp [Dm.little_len]; omega
    rw [List.flatMap_cons, List.length_append, List.length_cons]
    omega
theorem ln_transaction_blocks (h : sp_transaction_blocks K a vs H Q E) : vs.length = 2 := by obtain ⟨s, p, t, rfl, _⟩ := h; rfl
theorem pure_transaction_blocks (T : Tx K mg a) (h : sp_transaction_blocks K a vs H Q E) : t_transaction_blocks K a { nx := fun _ H' => Q .non H', rt := Q } (L2.start N_transaction_blocks vs) H := by
  obtain ⟨n, p, t, rfl, ⟨hs, bs, ho, hh, hb⟩, ht, hl, q⟩ := h
  unfold t_transaction_blocks
  walk_at "go"
  refine ⟨_, rfl, by decide, fun H1 D1 s1 n1 b1 => ?_⟩
  walk_at "go"
  refine ⟨n, 8, rfl, by decide, fun H2 D2 s2 n2 b2 => ?_⟩
  walk_at "go"
  refine x_cat (b1.mono s2) b2 (by rw [tally_txn, Dm.ascii_txn]; simp [Dm.little_len]; decide) fun H3 F s3 n3 b3 => ?_
  have nF : H F = none := (s1.trans s2).free n3
  have s : Same H H3 := (s1.trans s2).trans s3
  clear s1 s2 s3 b1 b2 n1 n2 n3
  walk_at "go"
  refine w_tyl b3 ?_
  walk_at "go"
  refine g_Transaction_homes T (ho.mono s) ?_
  walk_at "go"
  refine w_len (hh.mono s).sq ?_
  walk_at "go"
  refine ⟨t.length, 4, by simp [il], by decide, fun H4 D4 s4 n4 b4 => ?_⟩
  walk_at "go"
  refine ⟨by decide, fun Z nZ => ?_⟩
  have sZ := same_new (o := .lst [V.int 0]) nZ
  walk_at "go"
  refine x_rep (show LB (upd H4 Z (.lst [V.int 0])) Z [0] from upd_same) (by decide) (by decide) fun H5 D5 s5 n5 b5 => ?_
  walk_at "go"
  refine x_cat ((b4.mono sZ).mono s5) b5 (by simp [Dm.little_len, Fm08.zeros]; decide) fun H6 D6 s6 n6 b6 => ?_
  walk_at "go"
  refine x_ext ((((s.trans s4).trans sZ).trans s5).trans s6) nF ((((b3.mono s4).mono sZ).mono s5).mono s6) b6 (by rw [tally_txn, Dm.ascii_txn]; simp [Dm.little_len, Fm08.zeros]; decide) fun H7 s7 b7 => ?_
  have b8 : LB H7 F (txnHead n t) := by
    refine Eq.mp (congrArg (LB H7 F) ?_) b7
    unfold txnHead
    rw [tally_txn]
    rfl
  clear s4 sZ s5 s6 b3 b4 b5 b6 b7 s n4 nZ n5 n6
  walk_at "go"
  refine ⟨by decide, fun O nO => ?_⟩
  have hFO : F ≠ O := ne_of_none b8 nO
  have nO0 : H O = none := s7.free nO
  have s8 : Same H (upd H7 O (.lst [])) := s7.trans (same_new nO)
  have b9 : LB (upd H7 O (.lst [])) F (txnHead n t) := b8.mono (same_new nO)
  walk_at "go"
  refine g_Transaction_homes T (ho.mono s8) ?_
  walk_at "go"
  refine g_Transaction_blocks T (ho.mono s8) ?_
  walk_at "go"
  obtain ⟨as, hba, hal⟩ := hb
  refine w_zip2 (hh.mono s8).sq (.of (s8 _ _ hba)) ?_
  have hlen : as.length = t.length := by simpa using hal.len
  refine w_loop (walk_zip (n := t.length) (by simp [il, hlen])) (fun i σ H' => Same H H' ∧ (∃ v w, σ = [some (.int n), some (.ref p), some (.ref F), some (.ref O), v, w]) ∧ LB H' F (txnHead n t ++ (t.take i).flatMap entryOf) ∧
    ∃ os : List Addr, H' O = some (.lst (os.map V.ref)) ∧ os.length = i ∧ F ∉ os ∧ O ∉ os ∧ Al (LB H') os ((t.take i).map (otherOf n)))
    ⟨s8, ⟨_, _, rfl⟩, by simpa using b9, [], upd_same, rfl, by simp, by simp, trivial⟩ (fun i σ H' _ h => ⟨(hh.mono h.1).sq, .of (h.1 _ _ hba)⟩) ?_ ?_
  · rintro i x σ H' H'' hi ⟨s9, ⟨v, w, rfl⟩, bF, os, hO, hol, hF, hOo, hos⟩ ⟨T', x1, x2, rfl, nT, rfl, e1, e2⟩
    obtain ⟨z, hz⟩ : ∃ z, t[i]? = some z := ⟨t[i], by simp [hi]⟩
    dsimp only at e1 e2
    have e1' : x1 = V.int z.1 := by
      have e : (t.map (·.1))[i]? = some z.1 := by simp [hz]
      rw [il_get e] at e1
      exact (Option.some.inj e1).symm
    obtain ⟨ba, hba2, hB⟩ := hal.get2 (show (t.map (·.2))[i]? = some z.2 by simp [hz])
    have e2' : x2 = V.ref ba := by
      have e : (as.map V.ref)[i]? = some (V.ref ba) := by simp [hba2]
      rw [e] at e2
      exact (Option.some.inj e2).symm
    subst e1' e2'
    have sT := same_new (o := .tup [V.int z.1, V.ref ba]) nT
    have zl := hl z (List.mem_of_getElem? hz)
    refine w_gtup2 upd_same ?_
    have s10 := s9.trans sT
    have bF10 := bF.mono sT
    have hO10 := sT _ _ hO
    have hos10 := hos.sameB sT
    generalize hH : upd H' T' (HO.tup [V.int z.1, V.ref ba]) = H10 at *
    clear hH sT nT s9 bF hO hos
    walk_at "go"
    refine w_tyl bF10 ?_
    walk_at "go"
    refine ⟨z.1, 4, rfl, by decide, fun H11 D11 s11 n11 b11 => ?_⟩
    walk_at "go"
    refine ⟨ba, z.2, rfl, ((hB.mono s10).mono s11).sq, ?_⟩
    walk_at "go"
    refine ⟨_, 4, rfl, by decide, fun H12 D12 s12 n12 b12 => ?_⟩
    walk_at "go"
    refine x_cat (b11.mono s12) b12 (by simp [Dm.little_len]; decide) fun H13 D13 s13 n13 b13 => ?_
    walk_at "go"
    refine x_slice (((((hB.mono s10).mono s11).mono s12).mono s13)).sq (c := z.2.drop 504) (by rw [show (some (504 : Int)) = some ((504 : Nat) : Int) from rfl, cut_from, il_drop]) fun H14 D14 s14 n14 b14 => ?_
    walk_at "go"
    refine x_cat (b13.mono s14) b14 (by simp [Dm.little_len, sizeLine]; omega) fun H15 D15 s15 n15 b15 => ?_
    have s16 := (((s11.trans s12).trans s13).trans s14).trans s15
    walk_at "go"
    have fl := flat_len (t.take i) (fun y m => hl y (List.mem_of_mem_take m))
    refine x_extK (bF10.mono s16) b15 (by rw [List.length_append, txnHead_len]; simp [Dm.little_len, sizeLine]; simp at fl; omega) fun H17 k17 b17 => ?_
    have s17 : Same H H17 := Keep.fresh (s10.trans s16) k17 (by simpa using nF)
    have hO17 : H17 O = some (.lst (os.map V.ref)) := k17 _ _ (s16 _ _ hO10) (by simpa using hFO.symm)
    have hos17 := Al.keep k17 hF (hos10.sameB s16)
    clear k17 s11 s12 s13 s14 s15 b11 b12 b13 b14 b15 n11 n12 n13 n14 n15 s16 hO10 hos10 bF10 s10
    walk_at "go"
    refine w_tyl hO17 ?_
    walk_at "go"
    refine x_slice (hB.mono s17).sq (c := z.2.take 504) (by rw [show (some (504 : Int)) = some ((504 : Nat) : Int) from rfl, cut_to, il_take]) fun H18 D18 s18 n18 b18 => ?_
    walk_at "go"
    refine ⟨n, 8, rfl, by decide, fun H19 D19 s19 n19 b19 => ?_⟩
    walk_at "go"
    refine x_cat (b18.mono s19) b19 (by simp [Dm.little_len, sizeLine]; omega) fun H20 D20 s20 n20 b20 => ?_
    have s21 := (s18.trans s19).trans s20
    have n21 : H17 D20 = none := (s18.trans s19).free n20
    walk_at "go"
    refine x_appK (s21 _ _ hO17) (by simp [hol, sizeLine]; omega) fun H22 k22 h22 => ?_
    have nFD : D20 ≠ F := (ne_of_none b17 n21).symm
    have nOD : D20 ≠ O := (ne_of_none hO17 n21).symm
    refine ⟨Keep.fresh (s17.trans s21) k22 (by simpa using nO0), ⟨some (.int z.1), some (.ref ba), rfl⟩, ?_, os ++ [D20], by simpa using h22, by simp [hol], by simp [hF, nFD.symm], by simp [hOo, nOD.symm], ?_⟩
    · refine Eq.mp (congrArg (LB H22 F) ?_) ((b17.mono s21).keep k22 hFO)
      rw [List.take_add_one, hz]
      simp [entryOf]
    · rw [List.take_add_one, hz, List.map_append]
      exact (Al.keep k22 hOo (hos17.sameB s21)).snoc (b20.keep k22 nOD)
  · rintro σ H' ⟨s9, ⟨v, w, rfl⟩, bF, os, hO, hol, hF, hOo, hos⟩
    rw [List.take_length] at bF hos
    walk_at "go"
    refine w_tyl bF ?_
    walk_at "go"
    refine ⟨by decide, fun Z nZ => ?_⟩
    have sZ := same_new (o := .lst [V.int 0]) nZ
    walk_at "go"
    refine w_len (bF.mono sZ).sq ?_
    walk_at "go"
    have fl := flat_len t hl
    refine x_rep (show LB (upd H' Z (.lst [V.int 0])) Z [0] from upd_same) (by rw [il_len]; omega) (by rw [il_len, List.length_append, txnHead_len]; omega) fun H11 D11 s11 n11 b11 => ?_
    walk_at "go"
    refine ⟨n, 8, rfl, by decide, fun H12 D12 s12 n12 b12 => ?_⟩
    walk_at "go"
    refine x_cat (b11.mono s12) b12 (by simp [Dm.little_len, sizeLine, Fm08.zeros]; omega) fun H13 D13 s13 n13 b13 => ?_
    have s14 := ((sZ.trans s11).trans s12).trans s13
    walk_at "go"
    refine x_extK (bF.mono s14) b13 (by rw [List.length_append, txnHead_len, List.length_append, Dm.little_len, zeros_len, il_len, List.length_append, txnHead_len]; show _ ≤ 16777216; omega) fun H15 k15 b15 => ?_
    have s15 : Same H H15 := Keep.fresh (s9.trans s14) k15 (by simpa using nF)
    have hO15 : H15 O = some (.lst (os.map V.ref)) := k15 _ _ (s14 _ _ hO) (by simpa using hFO.symm)
    have hos15 := Al.keep k15 hF (hos.sameB s14)
    have b16 : LB H15 F (Fm08.descriptor n t) := by
      refine Eq.mp (congrArg (LB H15 F) ?_) b15
      rw [desc_eq, il_len]
      congr 3
      omega
    walk_at "go"
    refine ⟨by show 1 ≤ sizeLine; decide, fun R nR => ?_⟩
    have sR := same_new (o := .lst [V.ref F]) nR
    walk_at "go"
    refine w_cat upd_same (sR _ _ hO15) (by simp [hol, sizeLine]; omega) fun R2 nR2 => ?_
    have sR2 := same_new (o := .lst ([V.ref F] ++ os.map V.ref)) nR2
    refine q _ R2 ((s15.trans sR).trans sR2) ((s15.trans sR).free nR2) ⟨F :: os, upd_same, ?_⟩
    rw [pieces_eq]
    exact ⟨(b16.mono sR).mono sR2, (hos15.sameB sR).sameB sR2⟩
end
end Dk
namespace Dk
open PySem PySem.Spec PyProof.Rows L2
local macro_rules | `(tactic| walk_at "s1") => `(tactic| with_reducible first
  | refine w_seq ?_ | refine w_asg ?_ | refine w_drop ?_ | refine w_ret ?_ | refine w_retN ?_ | refine w_next ?_ | refine w_if ?_ | refine w_c ?_ | refine w_op ?_ | refine w_un ?_
  | refine w_fld ?_ | refine w_sfld ?_ | refine w_meth ?_ | refine w_call ?_ | refine w_cons ?_ | refine w_nil ?_ | refine w_cb ?_ | refine w_gname ?_ | refine w_lst ?_ | refine w_tup ?_
  | refine w_sl ?_ | refine w_nopart ?_ | refine w_part ?_ | refine w_parti ?_ | refine w_bm ?_ | refine w_test ?_ | refine w_tB ?_ | refine w_not ?_ | refine w_and_t ?_ | refine w_or_t ?_ | refine w_andV ?_ | refine w_orV ?_
  | refine w_for ?_ | refine w_ilist ?_ | refine w_rng1 ?_ | refine w_rev ?_ | refine w_istr ?_ | refine w_istr2 ?_ | refine w_zip ?_ | refine w_enum ?_ | refine w_lc ?_ | refine w_break ?_ | refine w_cont ?_ | refine w_dnew ?_
  | refine w_make ?_ | refine w_bl ?_ | refine w_isN ?_ | refine w_notN ?_ | refine w_neg ?_
  | refine w_add ?_ | refine w_sub ?_ | refine w_lt ?_ | refine w_le ?_ | refine w_gt ?_ | refine w_ge ?_ | refine w_eqI ?_ | refine w_neI ?_)
local macro_rules | `(tactic| walk_at "sv") => `(tactic| ((with_reducible refine' w_var ?hh ?_); (case hh => exact rfl)))
local macro_rules | `(tactic| walk_at "st") => `(tactic| first | walk_at "s1" | walk_at "sv")
local macro_rules | `(tactic| walk_at "go") => `(tactic| repeat' walk_at "st")
local macro_rules | `(tactic| walk_at "s1x") => `(tactic| with_reducible first
  | refine w_seq ?_ | refine w_asg ?_ | refine w_drop ?_ | refine w_ret ?_ | refine w_retN ?_ | refine w_next ?_ | refine w_c ?_ | refine w_op ?_ | refine w_un ?_
  | refine w_fld ?_ | refine w_sfld ?_ | refine w_meth ?_ | refine w_call ?_ | refine w_cons ?_ | refine w_nil ?_ | refine w_cb ?_ | refine w_gname ?_ | refine w_lst ?_ | refine w_tup ?_
  | refine w_sl ?_ | refine w_nopart ?_ | refine w_part ?_ | refine w_parti ?_ | refine w_bm ?_ | refine w_test ?_ | refine w_tB ?_ | refine w_not ?_ | refine w_and_t ?_ | refine w_or_t ?_ | refine w_andV ?_ | refine w_orV ?_
  | refine w_for ?_ | refine w_ilist ?_ | refine w_rng1 ?_ | refine w_rev ?_ | refine w_istr ?_ | refine w_istr2 ?_ | refine w_zip ?_ | refine w_enum ?_ | refine w_lc ?_ | refine w_break ?_ | refine w_cont ?_ | refine w_dnew ?_
  | refine w_make ?_ | refine w_bl ?_ | refine w_isN ?_ | refine w_notN ?_ | refine w_neg ?_
  | refine w_add ?_ | refine w_sub ?_ | refine w_lt ?_ | refine w_le ?_ | refine w_gt ?_ | refine w_ge ?_ | refine w_eqI ?_ | refine w_neI ?_)
local macro_rules | `(tactic| walk_at "gx") => `(tactic| repeat' first | walk_at "s1x" | walk_at "sv")
section
variable {K : PySem.W.Frag} {mg : Str → Option Value} {a : Ad} {vs : List V} {H H0 : Hp} {Q : VK} {E : XK} {σ : L2.St}
theorem ln_transaction_at (h : sp_transaction_at K a vs H Q E) : vs.length = 4 := by obtain ⟨J, jm, p, s, hc, rfl, _⟩ := h; rfl
theorem pure_transaction_at (T : Tx K mg a) (h : sp_transaction_at K a vs H Q E) : t_transaction_at K a { nx := fun _ H' => Q .non H', rt := Q } (L2.start N_transaction_at vs) H := by
  obtain ⟨J, jm, p, s, hc, rfl, ⟨as, hJ, hal⟩, hp, hz, hs, qn, qs⟩ := h
  have hlen : as.length = jm.length := hal.len
  have jget : ∀ i, ∃ b, as[(p + i) % jm.length]? = some b ∧ LB H b (Dm.jb jm p i) := fun i => by
    have hlt : (p + i) % jm.length < jm.length := Nat.mod_lt _ (by omega)
    obtain ⟨x, e1, e2⟩ := hal.get2 (show jm[(p + i) % jm.length]? = some (Dm.jb jm p i) by unfold Dm.jb; rw [List.getD_eq_getElem?_getD, List.getElem?_eq_getElem hlt]; rfl)
    exact ⟨x, e1, e2⟩
  obtain ⟨f, hf, hF⟩ := jget 0
  rw [Nat.add_zero, Nat.mod_eq_of_lt hp] at hf
  have hb0 : (Dm.jb jm p 0).length ≤ 1000 := hs _ (by
    unfold Dm.jb
    rw [Nat.add_zero, Nat.mod_eq_of_lt hp, List.getD_eq_getElem?_getD, List.getElem?_eq_getElem hp]
    exact List.getElem_mem hp)
  unfold t_transaction_at
  walk_at "go"
  refine w_ixL (.of hJ) (atI_nat (show (as.map V.ref)[p]? = some (V.ref f) by simp [hf])) ?_
  walk_at "go"
  refine ⟨f, _, 16, 4, rfl, hF.sq, fun H1 s1 => ?_⟩
  walk_at "go"
  refine ⟨f, _, 8, 8, rfl, (hF.mono s1).sq, fun H2 s2 => ?_⟩
  walk_at "go"
  refine w_ndec (fun c1 => ?_) (fun c1 => ?_)
  · walk_at "go"
    exact qn (if_pos (.inl fun e => c1 (by rw [e]))) H2 (s1.trans s2)
  have c1' : Fm08.number (Fm08.part (Dm.jb jm p 0) 8 8) = s := by omega
  have t2 := s1.trans s2
  clear s1 s2
  walk_at "go"
  refine w_len (.of (t2 _ _ hJ)) ?_
  rw [List.length_map, hlen]
  walk_at "go"
  refine w_dec (fun c2 => ?_) (fun c2 => ?_)
  · walk_at "go"
    exact qn (if_pos (.inr (by unfold Dm.cnt; omega))) H2 t2
  have c2' : ¬ jm.length < Dm.cnt jm p + 1 := by unfold Dm.cnt; omega
  have eT : Dm.txnOn jm hc s p = if Dm.homesOk ((Dm.lies jm p (Dm.cnt jm p)).map (·.1)) hc = true ∧ Fm08.pieces s (Dm.lies jm p (Dm.cnt jm p)) = (List.range (Dm.cnt jm p + 1)).map (Dm.jb jm p) then some (Dm.lies jm p (Dm.cnt jm p)) else none :=
    if_neg fun z => z.elim (fun z => z c1') c2'
  rw [eT] at qn qs
  clear eT
  walk_at "go"
  refine ⟨by show 1 ≤ sizeLine; decide, fun W nW => ?_⟩
  have sW := same_new (o := .lst [V.ref f]) nW
  have hW : (upd H2 W (.lst [V.ref f])) W = some (.lst [V.ref f]) := upd_same
  walk_at "go"
  refine ⟨by decide, fun L nL => ?_⟩
  have sL := same_new (o := .lst []) nL
  have hL : (upd (upd H2 W (.lst [V.ref f])) L (.lst [])) L = some (.lst []) := upd_same
  walk_at "go"
  refine ⟨by decide, fun B nB => ?_⟩
  have sB := same_new (o := .lst []) nB
  have nWL : W ≠ L := ne_of_none hW nL
  have nWB : W ≠ B := ne_of_none (sL _ _ hW) nB
  have nLB : L ≠ B := ne_of_none hL nB
  have W0 : H W = none := t2.free nW
  have L0 : H L = none := (t2.trans sW).free nL
  have B0 : H B = none := ((t2.trans sW).trans sL).free nB
  have t3 := ((t2.trans sW).trans sL).trans sB
  have hW3 := sB _ _ (sL _ _ hW)
  have hL3 := sB _ _ hL
  walk_at "go"
  refine w_rng1n (n := Dm.cnt jm p) (by omega) ?_
  refine w_loop walk_range (fun i σ H' => Same H H' ∧ (∃ v9 v10 v11, σ = [some (.ref J), some (.int p), some (.int s), some (.int hc), some (.ref f), some (.int (Dm.cnt jm p)), some (.ref W), some (.ref L), some (.ref B), v9, v10, v11, none]) ∧
    (∃ ws : List Addr, H' W = some (.lst (ws.map V.ref)) ∧ ws.length = i + 1 ∧ Al (LB H) ws ((List.range (i + 1)).map (Dm.jb jm p))) ∧ LB H' L ((Dm.lies jm p i).map (·.1)) ∧
    ∃ os : List Addr, H' B = some (.lst (os.map V.ref)) ∧ os.length = i ∧ W ∉ os ∧ L ∉ os ∧ B ∉ os ∧ Al (LB H') os ((Dm.lies jm p i).map (·.2)))
    ⟨t3, ⟨_, _, _, rfl⟩, ⟨[f], hW3, rfl, hF, trivial⟩, hL3, [], upd_same, rfl, by simp, by simp, by simp, trivial⟩ (fun _ _ _ _ _ => trivial) ?_ ?_
  · rintro i x σ H' H'' hi ⟨s9, ⟨v9, v10, v11, rfl⟩, ⟨ws, hW', wl, wal⟩, hL', os, hB', ol, oW, oL, oB, oal⟩ ⟨rfl, rfl⟩
    clear hW hW3 hL hL3 sW sL sB nW nL nB t3 t2
    obtain ⟨y, hy, hY⟩ := jget (i + 1)
    walk_at "go"
    refine w_mulL (by decide) ?_
    walk_at "go"
    refine w_len (.of (s9 _ _ hJ)) ?_
    rw [List.length_map, hlen]
    walk_at "go"
    rw [show (p : Int) + 1 + (0 + (i : Int)) = ((p + (i + 1) : Nat) : Int) by omega]
    refine w_mod (by omega) ?_
    refine w_ixL (.of (s9 _ _ hJ)) (atI_nat (show (as.map V.ref)[(p + (i + 1)) % jm.length]? = some (V.ref y) by simp [hy])) ?_
    walk_at "go"
    refine w_tyl hW' ?_
    walk_at "go"
    refine x_appK hW' (by simp [wl, sizeLine]; omega) fun H10 k10 h10 => ?_
    have s10 : Same H H10 := Keep.fresh s9 k10 (by simpa using W0)
    have hL10 := hL'.keep k10 nWL.symm
    have hB10 := k10 _ _ hB' (by simpa using nWB.symm)
    have oal10 := Al.keep k10 oW oal
    clear k10 hL' hB' oal s9 hW'
    walk_at "go"
    refine w_tyl hL10 ?_
    walk_at "go"
    rw [show (24 : Int) + 16 * (0 + (i : Int)) = ((24 + 16 * i : Nat) : Int) by omega]
    refine ⟨f, _, 24 + 16 * i, 4, rfl, (hF.mono s10).sq, fun H11 s11 => ?_⟩
    walk_at "go"
    refine x_appK (s11 _ _ hL10) (by simp [il, Dm.lies_len, sizeLine]; omega) fun H12 k12 h12 => ?_
    have s12 : Same H H12 := Keep.fresh (s10.trans s11) k12 (by simpa using L0)
    have hW12 := k12 _ _ (s11 _ _ h10) (by simpa using nWL)
    have hB12 := k12 _ _ (s11 _ _ hB10) (by simpa using nLB.symm)
    have oal12 := Al.keep k12 oL (oal10.sameB s11)
    clear k12 s11 hL10 h10 hB10 oal10 s10
    walk_at "go"
    refine w_tyl hB12 ?_
    walk_at "go"
    refine x_slice (hY.mono s12).sq (c := (Dm.jb jm p (i + 1)).take 504) (by rw [show (some (504 : Int)) = some ((504 : Nat) : Int) from rfl, cut_to, il_take]) fun H13 D13 s13 n13 b13 => ?_
    walk_at "go"
    refine x_slice ((hF.mono s12).mono s13).sq (c := Fm08.part (Dm.jb jm p 0) (32 + 16 * i) 8) (by
      rw [show ((24 + 16 * i : Nat) : Int) + 8 = ((32 + 16 * i : Nat) : Int) by omega, show ((24 + 16 * i : Nat) : Int) + 16 = ((32 + 16 * i : Nat) : Int) + ((8 : Nat) : Int) by omega]
      exact cut_part _ _ _) fun H14 D14 s14 n14 b14 => ?_
    walk_at "go"
    refine x_cat (b13.mono s14) b14 (by
      have := Dm.part_le (Dm.jb jm p 0) (32 + 16 * i) 8
      rw [List.length_take]; show _ ≤ 16777216; omega) fun H15 D15 s15 n15 b15 => ?_
    have s16 := (s13.trans s14).trans s15
    have n16 : H12 D15 = none := (s13.trans s14).free n15
    walk_at "go"
    refine x_appK (s16 _ _ hB12) (by simp [ol, sizeLine]; omega) fun H17 k17 h17 => ?_
    have nD : D15 ≠ B := (ne_of_none hB12 n16).symm
    refine ⟨Keep.fresh (s12.trans s16) k17 (by simpa using B0), ⟨_, _, _, rfl⟩, ⟨ws ++ [y], ?_, by simp [wl], ?_⟩, ?_, os ++ [D15], by simpa using h17, by simp [ol], ?_, ?_, ?_, ?_⟩
    · simpa using k17 _ _ (s16 _ _ hW12) (by simpa using nWB)
    · rw [List.range_succ, List.map_append]
      exact wal.snoc hY
    · refine LB.keep k17 nLB (b := (Dm.lies jm p (i + 1)).map (·.1)) (LB.mono s16 ?_)
      rw [Dm.lies_succ, List.map_append]
      show H12 L = _
      rw [h12, il_app]
      rfl
    · simp [oW]; exact fun e => (ne_of_none hW12 n16) e
    · simp [oL]; exact fun e => (ne_of_none h12 n16) e
    · simp [oB]; exact fun e => nD e.symm
    · rw [Dm.lies_succ, List.map_append]
      exact (Al.keep k17 oB (oal12.sameB s16)).snoc (b15.keep k17 nD)
  · rintro σ H' ⟨s9, ⟨v9, v10, v11, rfl⟩, ⟨ws, hW', wl, wal⟩, hL', os, hB', ol, oW, oL, oB, oal⟩
    clear hW hW3 hL hL3 sW sL sB nW nL nB t3 t2
    walk_at "go"
    refine mk_Transaction fun X H10 s10 nX oX => ?_
    walk_at "go"
    refine ⟨L, _, hc, rfl, (hL'.mono s10).sq, by simp [Dm.lies_len]; omega, ?_⟩
    walk_at "go"
    refine w_bool (fun c3 => ?_) (fun c3 => ?_)
    · walk_at "go"
      have hl := Dm.homesOk_len c3
      rw [List.length_map] at hl
      have tx : TxnAt a H10 X (Dm.lies jm p (Dm.cnt jm p)) := ⟨L, B, oX, hL'.mono s10, os, s10 _ _ hB', oal.sameB s10⟩
      refine ⟨s, X, _, rfl, tx, by omega, Dm.lies_small, fun H11 R s11 nR bR => ?_⟩
      walk_at "go"
      refine w_eqBs bR ⟨ws, (s10.trans s11) _ _ hW', (wal.sameB ((s9.trans s10).trans s11))⟩ ?_
      walk_at "go"
      refine w_dec (fun c4 => ?_) (fun c4 => ?_)
      · walk_at "go"
        exact qs _ (if_pos ⟨c3, c4⟩) H11 X ((s9.trans s10).trans s11) (s9.free nX) (tx.mono s11)
      · walk_at "go"
        exact qn (if_neg fun z => c4 z.2) H11 ((s9.trans s10).trans s11)
    · walk_at "go"
      exact qn (if_neg fun z => by rw [z.1] at c3; cases c3) H10 (s9.trans s10)
end
end Dk
namespace Dk
open PySem PySem.Spec PyProof.Rows L2
local macro_rules | `(tactic| walk_at "s1") => `(tactic| with_reducible first
  | refine w_seq ?_ | refine w_asg ?_ | refine w_drop ?_ | refine w_ret ?_ | refine w_retN ?_ | refine w_next ?_ | refine w_if ?_ | refine w_c ?_ | refine w_op ?_ | refine w_un ?_
  | refine w_fld ?_ | refine w_sfld ?_ | refine w_meth ?_ | refine w_call ?_ | refine w_cons ?_ | refine w_nil ?_ | refine w_cb ?_ | refine w_gname ?_ | refine w_lst ?_ | refine w_tup ?_
  | refine w_sl ?_ | refine w_nopart ?_ | refine w_part ?_ | refine w_parti ?_ | refine w_bm ?_ | refine w_test ?_ | refine w_tB ?_ | refine w_not ?_ | refine w_and_t ?_ | refine w_or_t ?_ | refine w_andV ?_ | refine w_orV ?_
  | refine w_for ?_ | refine w_ilist ?_ | refine w_rng1 ?_ | refine w_rev ?_ | refine w_istr ?_ | refine w_istr2 ?_ | refine w_zip ?_ | refine w_enum ?_ | refine w_lc ?_ | refine w_break ?_ | refine w_cont ?_ | refine w_dnew ?_
  | refine w_make ?_ | refine w_bl ?_ | refine w_isN ?_ | refine w_notN ?_ | refine w_neg ?_
  | refine w_add ?_ | refine w_sub ?_ | refine w_lt ?_ | refine w_le ?_ | refine w_gt ?_ | refine w_ge ?_ | refine w_eqI ?_ | refine w_neI ?_)
local macro_rules | `(tactic| walk_at "sv") => `(tactic| ((with_reducible refine' w_var ?hh ?_); (case hh => exact rfl)))
local macro_rules | `(tactic| walk_at "st") => `(tactic| first | walk_at "s1" | walk_at "sv")
local macro_rules | `(tactic| walk_at "go") => `(tactic| repeat' walk_at "st")
local macro_rules | `(tactic| walk_at "s1x") => `(tactic| with_reducible first
  | refine w_seq ?_ | refine w_asg ?_ | refine w_drop ?_ | refine w_ret ?_ | refine w_retN ?_ | refine w_next ?_ | refine w_c ?_ | refine w_op ?_ | refine w_un ?_
  | refine w_fld ?_ | refine w_sfld ?_ | refine w_meth ?_ | refine w_call ?_ | refine w_cons ?_ | refine w_nil ?_ | refine w_cb ?_ | refine w_gname ?_ | refine w_lst ?_ | refine w_tup ?_
  | refine w_sl ?_ | refine w_nopart ?_ | refine w_part ?_ | refine w_parti ?_ | refine w_bm ?_ | refine w_test ?_ | refine w_tB ?_ | refine w_not ?_ | refine w_and_t ?_ | refine w_or_t ?_ | refine w_andV ?_ | refine w_orV ?_
  | refine w_for ?_ | refine w_ilist ?_ | refine w_rng1 ?_ | refine w_rev ?_ | refine w_istr ?_ | refine w_istr2 ?_ | refine w_zip ?_ | refine w_enum ?_ | refine w_lc ?_ | refine w_break ?_ | refine w_cont ?_ | refine w_dnew ?_
  | refine w_make ?_ | refine w_bl ?_ | refine w_isN ?_ | refine w_notN ?_ | refine w_neg ?_
  | refine w_add ?_ | refine w_sub ?_ | refine w_lt ?_ | refine w_le ?_ | refine w_gt ?_ | refine w_ge ?_ | refine w_eqI ?_ | refine w_neI ?_)
local macro_rules | `(tactic| walk_at "gx") => `(tactic| repeat' first | walk_at "s1x" | walk_at "sv")
section
variable {K : PySem.W.Frag} {mg : Str → Option Value} {a : Ad} {vs : List V} {H H0 : Hp} {Q : VK} {E : XK} {σ : L2.St}
/-- a list of other things than numbers is not a list of numbers -/
theorem ne_ref {p L : Addr} {b : List Nat} {xs : List Addr} (h : LB H p b) (n : b ≠ []) (hL : H L = some (.lst (xs.map V.ref))) : p ≠ L := ne_of h hL fun e => by
  cases b with
  | nil => exact n rfl
  | cons x b =>
    have e2 : il (x :: b) = xs.map V.ref := HO.lst.inj e
    cases xs with
    | nil => cases e2
    | cons y xs => cases (List.cons.inj e2).1
theorem Al.keepB {H' : Hp} {L : Addr} {xs : List Addr} (k : Keep [L] H H') (hL : H L = some (.lst (xs.map V.ref))) : ∀ {as : List Addr} {m : List (List Nat)}, (∀ b ∈ m, b ≠ []) → Al (LB H) as m → Al (LB H') as m
  | [], [], _, _ => trivial
  | _ :: as, b :: m, n, h => ⟨h.1.keep k (ne_ref h.1 (n b (by simp)) hL), Al.keepB k hL (as := as) (m := m) (fun c q => n c (by simp [q])) h.2⟩
  | [], _ :: _, _, h => h.elim
  | _ :: _, [], _, h => h.elim
theorem TxnAt.keepL {H' : Hp} {L x : Addr} {xs : List Addr} {t : Fm08.Txn} (k : Keep [L] H H') (hL : H L = some (.lst (xs.map V.ref))) (hx : ∀ x ∈ xs, ∃ C dx fs, H x = some (.ins C dx fs)) (h1 : t ≠ []) (h2 : ∀ z ∈ t, z.2 ≠ []) (h : TxnAt a H x t) : TxnAt a H' x t := by
  obtain ⟨hs, bs, ⟨dx, o1⟩, o2, bas, o3, o4⟩ := h
  refine ⟨hs, bs, ⟨dx, k _ _ o1 (by simpa using ne_of o1 hL (by intro e; cases e))⟩, o2.keep k (ne_ref o2 (by simpa using h1) hL), bas, k _ _ o3 ?_, Al.keepB k hL (by simpa using fun b y q => h2 (y, b) q) o4⟩
  have : bs ≠ L := ne_of o3 hL fun e => by
    have e2 : bas = xs := by
      have := HO.lst.inj e
      exact (List.map_inj_right (fun _ _ h => V.ref.inj h)).mp this
    obtain ⟨z, hz⟩ := List.exists_mem_of_ne_nil _ h1
    obtain ⟨i, hi⟩ := List.mem_iff_getElem?.mp hz
    obtain ⟨y, hy, hB⟩ := o4.get2 (show (t.map (·.2))[i]? = some z.2 by simp [hi])
    obtain ⟨C, d, fs, hC⟩ := hx y (by rw [← e2]; exact List.mem_of_getElem? hy)
    rw [hB] at hC
    cases hC
  simpa using this
theorem ln_counting_head (h : sp_counting_head K a vs H Q E) : vs.length = 1 := by obtain ⟨p, m, rfl, _⟩ := h; rfl
theorem LBs.len {p : Addr} {m : List (List Nat)} (h : LBs H p m) : ∃ xs, H p = some (.lst xs) ∧ xs.length = m.length := by
  obtain ⟨as, h1, h2⟩ := h
  exact ⟨_, h1, by rw [List.length_map]; exact h2.len⟩
theorem w_lenB {p : Addr} {m : List (List Nat)} (h : LBs H p m) (q : Q (.int (m.length : Int)) H) : rLen K [.ref p] H Q := by
  obtain ⟨xs, h1, h2⟩ := h.len
  refine w_len (.of h1) ?_
  rw [h2]; exact q
/-- what a look for a head in block i gives -/
def HRes (a : Ad) (H : Hp) (v : V) (o : Option Fm08.Head) : Prop := match o with
  | none => v = .non
  | some h => ∃ q, v = .ref q ∧ HeadAt a H q h
theorem HRes.mono {H H' : Hp} {v : V} {o : Option Fm08.Head} (s : Same H H') (h : HRes a H v o) : HRes a H' v o := by
  cases o with
  | none => exact h
  | some x => exact h.elim fun q e => ⟨q, e.1, e.2.mono s⟩
theorem c_head_in {p : Addr} {i : Nat} {m : List (List Nat)} (h : LBs H p m) (hi : i < m.length) (hz : m.length ≤ sizeLine) (q : ∀ v H', Same H H' → HRes a H' v (Fm08.headAt m i) → Q v H') : sp_head_in K a [.ref p, .int i] H Q E :=
  ⟨p, i, m, rfl, h, hi, hz, fun e H' s => q _ H' s (by rw [e]; rfl), fun hd e H' r s _ k => q _ H' s (by rw [e]; exact ⟨r, rfl, k⟩)⟩
theorem ref_non {p : Addr} : decide (V.ref p = V.non) = false := decide_eq_false (by intro e; cases e)
theorem non_non : decide (V.non = V.non) = true := decide_eq_true rfl
theorem pure_counting_head (T : Tx K mg a) (h : sp_counting_head K a vs H Q E) : t_counting_head K a { nx := fun _ H' => Q .non H', rt := Q } (L2.start N_counting_head vs) H := by
  obtain ⟨p, m, rfl, hp, mk, qn, qs⟩ := h
  unfold t_counting_head
  walk_at "go"
  refine w_lenB hp ?_
  walk_at "go"
  refine w_dec (fun c1 => ?_) (fun c1 => ?_)
  · walk_at "go"
    have e : m = [] := List.eq_nil_of_length_eq_zero (by omega)
    exact qn (by rw [e]; exact Dm.best_nil) H (Same.refl H)
  have h8 : 8 ≤ m.length := mk.len.elim (fun e => absurd (by rw [e]; rfl) c1) id
  have hz : m.length ≤ sizeLine := Nat.le_trans mk.most (by decide)
  walk_at "go"
  refine c_head_in (i := 0) hp (by omega) hz fun v H1 s1 r1 => ?_
  walk_at "go"
  refine c_head_in (i := 1) (hp.mono s1) (by omega) hz fun w H2 s2 r2 => ?_
  walk_at "go"
  have r1' := r1.mono s2
  have s := s1.trans s2
  unfold Fm08.best at qn qs
  cases e0 : Fm08.headAt m 0 with
  | none =>
    rw [e0] at qn qs r1'
    cases (r1' : v = .non)
    rw [non_non]
    refine w_tt ?_
    walk_at "go"
    cases e1 : Fm08.headAt m 1 with
    | none =>
      rw [e1] at r2 qn
      cases (r2 : w = .non)
      exact qn rfl H2 s
    | some y =>
      rw [e1] at r2 qs
      obtain ⟨q2, rfl, hy⟩ := r2
      exact qs y rfl H2 q2 s hy
  | some x =>
    rw [e0] at qn qs r1'
    obtain ⟨q1, rfl, hx⟩ := r1'
    rw [ref_non]
    refine w_ff ?_
    walk_at "go"
    cases e1 : Fm08.headAt m 1 with
    | none =>
      rw [e1] at r2 qs
      cases (r2 : w = .non)
      rw [non_non]
      refine w_tt (w_tt ?_)
      walk_at "go"
      exact qs x rfl H2 q1 s hx
    | some y =>
      rw [e1] at r2 qs
      obtain ⟨q2, rfl, hy⟩ := r2
      rw [ref_non]
      refine w_ff ?_
      obtain ⟨sx, ox, hsx⟩ := hx
      obtain ⟨sy, oy, hsy⟩ := hy
      walk_at "go"
      refine g_Head_generation T ox ?_
      walk_at "go"
      refine g_Head_generation T oy ?_
      walk_at "go"
      have g0 := (Dm.headAt_ok e0).1
      have g1 := (Dm.headAt_ok e1).1
      refine w_dec (fun c2 => ?_) (fun c2 => ?_)
      · walk_at "go"
        exact qs x (if_neg (by omega)) H2 q1 s ⟨sx, ox, hsx⟩
      · walk_at "go"
        exact qs y (if_pos (by omega)) H2 q2 s ⟨sy, oy, hsy⟩
theorem ln_found_on (h : sp_found_on K a vs H Q E) : vs.length = 1 := by obtain ⟨p, m, rfl, _⟩ := h; rfl
theorem c_transaction_at {J : Addr} {jm : List (List Nat)} {p s : Nat} {hc : Int} (h : LBs H J jm) (hp : p < jm.length) (hz : jm.length ≤ 5000) (hb : ∀ b ∈ jm, b.length ≤ 1000)
    (q : ∀ v H', Same H H' → (match Dm.txnOn jm hc s p with | none => v = V.non | some t => ∃ x, v = .ref x ∧ H x = none ∧ TxnAt a H' x t) → Q v H') : sp_transaction_at K a [.ref J, .int p, .int s, .int hc] H Q E :=
  ⟨J, jm, p, s, hc, rfl, h, hp, hz, hb, fun e H' k => q _ H' k (by rw [e]), fun t e H' x k n g => q _ H' k (by rw [e]; exact ⟨x, rfl, n, g⟩)⟩
theorem found_len (m : List Fm08.Bytes) (j : Nat) : ∀ f s p, (Fm08.found m j f s p).1.length ≤ f
  | 0, _, _ => by simp [Fm08.found]
  | f + 1, s, p => by
    rw [Fm08.found]
    cases Fm08.txnAt m j s p with
    | none => simp
    | some t =>
      have := found_len m j f (s + 1) ((p + t.length + 1) % j)
      show (_ :: (Fm08.found m j f (s + 1) ((p + t.length + 1) % j)).1).length ≤ _
      rw [List.length_cons]; omega
theorem pure_found_on (T : Tx K mg a) (h : sp_found_on K a vs H Q E) : t_found_on K a { nx := fun _ H' => Q .non H', rt := Q } (L2.start N_found_on vs) H := by
  obtain ⟨p, m, rfl, hp, mk, qn, qs⟩ := h
  unfold t_found_on
  walk_at "go"
  refine ⟨p, m, rfl, hp, mk, fun e H1 s1 => ?_, fun h e H1 d s1 hd => ?_⟩
  · walk_at "go"
    rw [non_non]
    refine w_tt ?_
    walk_at "go"
    exact qn e H1 s1
  have ok := Dm.best_ok e
  have sh := (Dm.shape_iff _ _).mp ok.sh
  have hn := ok.n
  replace qs := qs h e
  obtain ⟨S, ho, hS⟩ := hd
  obtain ⟨as, hpa, hal⟩ := hp
  walk_at "go"
  rw [ref_non]
  refine w_ff ?_
  walk_at "go"
  refine g_Head_shape T ho ?_
  walk_at "go"
  refine g_Shape_place_count T hS ?_
  walk_at "go"
  refine w_slL (.of (s1 _ _ hpa)) fun J nJ => ?_
  have sJ := same_new (o := .lst (cutV (as.map V.ref) (some 2) (some ((h.j : Int) + 2)))) nJ
  have hJ : (upd H1 J (.lst (cutV (as.map V.ref) (some 2) (some ((h.j : Int) + 2))))) J = some (.lst (((as.drop 2).take h.j).map V.ref)) := by
    rw [upd_same, show (some (2 : Int)) = some ((2 : Nat) : Int) from rfl, show (h.j : Int) + 2 = ((h.j + 2 : Nat) : Int) by omega, cut_nat, Nat.add_sub_cancel, List.map_take, List.map_drop]
  have hjal : Al (LB H) ((as.drop 2).take h.j) ((m.drop 2).take h.j) := (hal.drop 2).take h.j
  walk_at "go"
  refine ⟨by decide, fun L nL => ?_⟩
  have sL := same_new (o := .lst []) nL
  have L0 : H L = none := (s1.trans sJ).free nL
  have L1 : H1 L = none := sJ.free nL
  have s3 := (s1.trans sJ).trans sL
  have hJ3 := sL _ _ hJ
  have t3 := sJ.trans sL
  have hL3 : (upd (upd H1 J (.lst (cutV (as.map V.ref) (some 2) (some ((h.j : Int) + 2))))) L (.lst [])) L = some (.lst []) := upd_same
  have J3 : J ≠ L := ne_of_none hJ nL
  generalize upd (upd H1 J (.lst (cutV (as.map V.ref) (some 2) (some ((h.j : Int) + 2))))) L (.lst []) = H3 at *
  clear hJ sJ nJ nL sL
  walk_at "go"
  refine g_Head_place T (ho.mono t3) ?_
  walk_at "go"
  have jl : ((m.drop 2).take h.j).length = h.j := by simp; omega
  have exit : ∀ (ts : List Fm08.Txn) (pl : Nat) (v6 v7 : Option V) (xs : List Addr) (H' : Hp), Same H1 H' → H' L = some (.lst (xs.map V.ref)) → Al (TxnAt a H') xs ts → Fm08.found m h.j h.j h.next h.place = (ts, pl) →
      tRet (tMake a.c_Found (sp_Found_init K a) [] E0 (tCons (tVar 1) (tCons (tVar 4) (tCons (tVar 5) tNil)))) { nx := fun _ H' => Q .non H', rt := Q } [some (.ref p), some (.ref d), some (.ref S), some (.ref J), some (.ref L), some (.int pl), v6, v7] H' := by
    intro ts pl v6 v7 xs H' sx hL ha hf
    walk_at "go"
    refine mk_Found fun X H9 s9 nX oX => ?_
    refine qs H9 X ((s1.trans sx).trans s9) ?_
    rw [hf]
    exact ⟨d, L, oX, ⟨S, (ho.mono sx).mono s9, (hS.mono sx).mono s9⟩, xs, s9 _ _ hL, ha.imp fun _ _ k => k.mono s9⟩
  refine w_while (fun k σ H' => ∃ (ts : List Fm08.Txn) (pl : Nat) (v6 v7 : Option V) (xs : List Addr), k + ts.length = h.j ∧ σ = [some (.ref p), some (.ref d), some (.ref S), some (.ref J), some (.ref L), some (.int pl), v6, v7] ∧ Keep [L] H3 H' ∧
    H' L = some (.lst (xs.map V.ref)) ∧ Al (fun x t => TxnAt a H' x t ∧ t ≠ [] ∧ ∀ z ∈ t, z.2 ≠ []) xs ts ∧ pl < h.j ∧ Fm08.found m h.j h.j h.next h.place = (ts ++ (Fm08.found m h.j k (h.next + ts.length) pl).1, (Fm08.found m h.j k (h.next + ts.length) pl).2))
    ⟨h.j, [], h.place, _, _, [], rfl, rfl, Keep.refl _ _, hL3, trivial, ok.pl, by simp⟩ ?_
  rintro k σ H' ⟨ts, pl, v6, v7, xs, hk, rfl, kp, hL, hal', hpl, hfound⟩
  have sx : Same H1 H' := Keep.fresh t3 kp (by simpa using L1)
  have xl : xs.length = ts.length := hal'.len
  walk_at "go"
  refine w_len (.of hL) ?_
  rw [List.length_map, xl]
  walk_at "go"
  refine g_Shape_place_count T (hS.mono sx) ?_
  walk_at "go"
  refine w_wdec (fun c => ?_) (fun c => ?_)
  · obtain ⟨k', rfl⟩ : ∃ k', k = k' + 1 := ⟨k - 1, by omega⟩
    walk_at "go"
    refine g_Head_number T (ho.mono sx) ?_
    walk_at "go"
    refine w_len (.of hL) ?_
    rw [List.length_map, xl]
    walk_at "go"
    rw [show (h.next : Int) + (ts.length : Int) = ((h.next + ts.length : Nat) : Int) by omega]
    refine g_Shape_home_count T (hS.mono sx) ?_
    walk_at "go"
    have eq := Dm.txnAt_eq (m := m) (j := h.j) (s := h.next + ts.length) (p := pl) mk.blk (by omega) hpl (by have := ok.x; unfold Fm08.HIGH at this; omega)
    rw [← hn] at eq
    have hJ' : LBs H' J ((m.drop 2).take h.j) := ⟨_, kp _ _ hJ3 (by simpa using J3), hjal.sameB (s1.trans sx)⟩
    refine c_transaction_at hJ' (by omega) (by omega) (fun b hb => ?_) fun v H10 s10 r => ?_
    · have := (Dm.isBlock_iff b).mp (mk.blk b (List.mem_of_mem_drop (List.mem_of_mem_take hb)))
      omega
    rw [← eq] at r
    rw [Fm08.found] at hfound
    walk_at "go"
    cases et : Fm08.txnAt m h.j (h.next + ts.length) pl with
    | none =>
      rw [et] at r hfound
      cases (r : v = .non)
      rw [non_non]
      refine w_tt ?_
      refine w_break ?_
      exact exit ts pl _ _ xs H10 (sx.trans s10) (s10 _ _ hL) (hal'.imp fun _ _ k => k.1.mono s10) (by rw [hfound]; simp)
    | some t =>
      rw [et] at r hfound
      obtain ⟨x, rfl, nx, tx⟩ := r
      rw [ref_non]
      refine w_ff ?_
      walk_at "go"
      refine w_tyl (s10 _ _ hL) ?_
      walk_at "go"
      refine x_appK (s10 _ _ hL) (by rw [List.length_map, xl]; show _ < 16777216; omega) fun H11 k11 h11 => ?_
      have gt := (Dm.txnOk_iff _ _).mp (Dm.txnAt_good et)
      have t1 : t ≠ [] := by intro e; rw [e] at gt; exact absurd gt.1 (by decide)
      have t2 : ∀ z ∈ t, z.2 ≠ [] := fun z hz => Dm.isBlock_ne (gt.2.2.1 z hz).2
      have hx10 : ∀ x ∈ xs, ∃ C dx fs, H10 x = some (.ins C dx fs) := by
        intro y hy
        obtain ⟨i, hi⟩ := List.mem_iff_getElem?.mp hy
        obtain ⟨u, _, hu⟩ := hal'.get hi
        obtain ⟨_, _, ⟨dx, o1⟩, _⟩ := (hu.1.mono s10)
        exact ⟨_, dx, _, o1⟩
      have k12 : Keep [L] H3 H11 := (kp.trans (Keep.of s10)).trans k11
      have tx11 := TxnAt.keepL k11 (s10 _ _ hL) hx10 t1 t2 tx
      have s11 : Same H1 H11 := Keep.fresh (sx.trans s10) k11 (by simpa using L1)
      walk_at "go"
      obtain ⟨hs', bs', o1, o2, o3⟩ := tx11
      refine g_Transaction_homes T o1 ?_
      walk_at "go"
      refine w_len o2.sq ?_
      walk_at "go"
      refine g_Shape_place_count T (hS.mono s11) ?_
      walk_at "go"
      rw [il_len, List.length_map, show (pl : Int) + 1 + (t.length : Int) = ((pl + t.length + 1 : Nat) : Int) by omega]
      refine w_mod (by omega) ?_
      walk_at "go"
      refine ⟨k', by omega, ts ++ [t], (pl + t.length + 1) % h.j, _, _, xs ++ [x], by simp; omega, rfl, k12, by simpa using h11, ?_, Nat.mod_lt _ (by omega), ?_⟩
      · refine Al.snoc (hal'.imp fun y u q => ⟨TxnAt.keepL k11 (s10 _ _ hL) hx10 q.2.1 q.2.2 (q.1.mono s10), q.2⟩) ⟨⟨hs', bs', o1, o2, o3⟩, t1, t2⟩
      · rw [hfound]
        simp [List.append_assoc, Nat.add_assoc]
  · have k0 : k = 0 := by omega
    subst k0
    exact exit ts pl v6 v7 xs H' sx hL (hal'.imp fun _ _ k => k.1) (by rw [hfound]; simp [Fm08.found])
end
end Dk
namespace Dk
open PySem PySem.Spec PyProof.Rows L2
local macro_rules | `(tactic| walk_at "s1") => `(tactic| with_reducible first
  | refine w_seq ?_ | refine w_asg ?_ | refine w_drop ?_ | refine w_ret ?_ | refine w_retN ?_ | refine w_next ?_ | refine w_if ?_ | refine w_c ?_ | refine w_op ?_ | refine w_un ?_
  | refine w_fld ?_ | refine w_sfld ?_ | refine w_meth ?_ | refine w_call ?_ | refine w_cons ?_ | refine w_nil ?_ | refine w_cb ?_ | refine w_gname ?_ | refine w_lst ?_ | refine w_tup ?_
  | refine w_sl ?_ | refine w_nopart ?_ | refine w_part ?_ | refine w_parti ?_ | refine w_bm ?_ | refine w_test ?_ | refine w_tB ?_ | refine w_not ?_ | refine w_and_t ?_ | refine w_or_t ?_ | refine w_andV ?_ | refine w_orV ?_
  | refine w_for ?_ | refine w_ilist ?_ | refine w_rng1 ?_ | refine w_rev ?_ | refine w_istr ?_ | refine w_istr2 ?_ | refine w_zip ?_ | refine w_enum ?_ | refine w_lc ?_ | refine w_break ?_ | refine w_cont ?_ | refine w_dnew ?_
  | refine w_make ?_ | refine w_bl ?_ | refine w_isN ?_ | refine w_notN ?_ | refine w_neg ?_
  | refine w_add ?_ | refine w_sub ?_ | refine w_lt ?_ | refine w_le ?_ | refine w_gt ?_ | refine w_ge ?_ | refine w_eqI ?_ | refine w_neI ?_)
local macro_rules | `(tactic| walk_at "sv") => `(tactic| ((with_reducible refine' w_var ?hh ?_); (case hh => exact rfl)))
local macro_rules | `(tactic| walk_at "st") => `(tactic| first | walk_at "s1" | walk_at "sv")
local macro_rules | `(tactic| walk_at "go") => `(tactic| repeat' walk_at "st")
local macro_rules | `(tactic| walk_at "s1x") => `(tactic| with_reducible first
  | refine w_seq ?_ | refine w_asg ?_ | refine w_drop ?_ | refine w_ret ?_ | refine w_retN ?_ | refine w_next ?_ | refine w_c ?_ | refine w_op ?_ | refine w_un ?_
  | refine w_fld ?_ | refine w_sfld ?_ | refine w_meth ?_ | refine w_call ?_ | refine w_cons ?_ | refine w_nil ?_ | refine w_cb ?_ | refine w_gname ?_ | refine w_lst ?_ | refine w_tup ?_
  | refine w_sl ?_ | refine w_nopart ?_ | refine w_part ?_ | refine w_parti ?_ | refine w_bm ?_ | refine w_test ?_ | refine w_tB ?_ | refine w_not ?_ | refine w_and_t ?_ | refine w_or_t ?_ | refine w_andV ?_ | refine w_orV ?_
  | refine w_for ?_ | refine w_ilist ?_ | refine w_rng1 ?_ | refine w_rev ?_ | refine w_istr ?_ | refine w_istr2 ?_ | refine w_zip ?_ | refine w_enum ?_ | refine w_lc ?_ | refine w_break ?_ | refine w_cont ?_ | refine w_dnew ?_
  | refine w_make ?_ | refine w_bl ?_ | refine w_isN ?_ | refine w_notN ?_ | refine w_neg ?_
  | refine w_add ?_ | refine w_sub ?_ | refine w_lt ?_ | refine w_le ?_ | refine w_gt ?_ | refine w_ge ?_ | refine w_eqI ?_ | refine w_neI ?_)
local macro_rules | `(tactic| walk_at "gx") => `(tactic| repeat' first | walk_at "s1x" | walk_at "sv")
section
variable {K : PySem.W.Frag} {mg : Str → Option Value} {a : Ad} {vs : List V} {H H0 : Hp} {Q : VK} {E : XK} {σ : L2.St}
theorem w_gsub {to ti : TE} {t : TSet} {v : V} {R : L2.St → Hp → Prop} (h : to σ H fun o H1 => ti σ H1 fun i H2 => t o i v H2 fun H3 => R σ H3) : gSub to ti t v σ H R := h
theorem w_setL {p : Addr} {xs : List V} {k : Nat} {v : V} {R : Hp → Prop} (h : H p = some (.lst xs)) (hk : k < xs.length) (q : R (upd H p (.lst (xs.set k v)))) : rSetL (.ref p) (.int k) v H R :=
  ⟨p, xs, k, k, rfl, rfl, h, by unfold ixN; rw [if_pos (by omega), if_pos (by omega), Int.toNat_natCast], q⟩
theorem map_set_ref (as : List Addr) (k : Nat) (x : Addr) : (as.map V.ref).set k (V.ref x) = (as.set k x).map V.ref := by rw [List.map_set]
/-- B's list of refs changes: what else is there stays -/
theorem Al.keepW {H' : Hp} {L : Addr} {xs : List V} (k : Keep [L] H H') (hL : H L = some (.lst xs)) (hx : ∀ i, V.int i ∉ xs) : ∀ {ws : List Addr} {way : List Fm08.Write}, (∀ w ∈ way, w.bytes ≠ []) → Al (WrAt H) ws way → Al (WrAt H') ws way
  | [], [], _, _ => trivial
  | _ :: ws, w :: way, n, h => by
    obtain ⟨⟨x, e1, e2⟩, h2⟩ := h
    refine ⟨⟨x, k _ _ e1 (by simpa using ne_of e1 hL (by intro e; cases e)), e2.keep k (ne_of e2 hL fun e => ?_)⟩, Al.keepW k hL hx (ws := ws) (way := way) (fun c q => n c (by simp [q])) h2⟩
    have := n w (by simp)
    cases eb : w.bytes with
    | nil => exact this eb
    | cons y r =>
      rw [eb] at e
      have e3 : il (y :: r) = xs := HO.lst.inj e
      exact hx y (by rw [← e3]; simp [il])
  | [], _ :: _, _, h => h.elim
  | _ :: _, [], _, h => h.elim
theorem no_int_refs (as : List Addr) : ∀ i, V.int i ∉ as.map V.ref := by simp
theorem blk_ne {m : List Fm08.Bytes} (h : Dm.Blocks m) : ∀ b ∈ m, b ≠ [] := fun b hb => Dm.isBlock_ne (h b hb)
theorem ln_Medium_init (h : sp_Medium_init K a vs H Q E) : vs.length = 2 := by obtain ⟨p, dx, B, rfl, _⟩ := h; rfl
theorem pure_Medium_init (T : Tx K mg a) (h : sp_Medium_init K a vs H Q E) : t_Medium_init K a { nx := fun _ H' => Q .non H', rt := Q } (L2.start N_Medium_init vs) H := by
  obtain ⟨p, dx, B, rfl, hp, q⟩ := h
  unfold t_Medium_init
  walk_at "go"
  refine ini_Medium_blocks T hp fun H1 h1 k1 => ?_
  walk_at "go"
  refine ⟨by decide, fun W nW => ?_⟩
  walk_at "go"
  have sW := same_new (o := .lst []) nW
  have nWp : W ≠ p := (ne_of_none h1 nW).symm
  refine ini_Medium_on_way T (sW _ _ h1) fun H2 h2 k2 => ?_
  refine q H2 W ⟨dx, h2⟩ (k2 _ _ upd_same (by simpa using nWp)) ?_ ((k1.trans (Keep.of sW)).trans k2)
  cases e : H W with
  | none => rfl
  | some o => rw [k1 _ _ e (by simpa using nWp)] at nW; cases nW
theorem arrived_whole {m : List Fm08.Bytes} {w : Fm08.Write} (hb : Dm.Blocks m) (h1 : w.block < m.length) (h2 : Fm08.isBlock w.bytes = true) : Fm08.arrived m w Fm08.SIZE = m.set w.block w.bytes := by
  unfold Fm08.arrived Fm08.SIZE
  have e1 := ((Dm.isBlock_iff _).mp h2).1
  have e2 := ((Dm.isBlock_iff _).mp (Dm.blk_get hb h1)).1
  rw [List.take_of_length_le (by omega), List.drop_of_length_le (by omega), List.append_nil]
theorem arrived_blk {m : List Fm08.Bytes} {w : Fm08.Write} {k : Nat} (hb : Dm.Blocks m) (h1 : w.block < m.length) (h2 : Fm08.isBlock w.bytes = true) : Dm.Blocks (Fm08.arrived m w k) ∧ (Fm08.arrived m w k).length = m.length := by
  unfold Fm08.arrived
  refine ⟨fun b hm => ?_, by simp⟩
  rcases List.mem_or_eq_of_mem_set hm with q | q
  · exact hb b q
  · have e1 := (Dm.isBlock_iff _).mp h2
    have e2 := (Dm.isBlock_iff _).mp (Dm.blk_get hb h1)
    rw [q, Dm.isBlock_iff]
    refine ⟨by simp only [List.length_append, List.length_take, List.length_drop]; omega, fun x hx => ?_⟩
    rcases List.mem_append.mp hx with z | z
    · exact e1.2 x (List.mem_of_mem_take z)
    · exact e2.2 x (List.mem_of_mem_drop z)
theorem ln_Medium_wait (h : sp_Medium_wait K a vs H Q E) : vs.length = 1 := by obtain ⟨p, B, W, m, way, rfl, _⟩ := h; rfl
theorem pure_Medium_wait (T : Tx K mg a) (h : sp_Medium_wait K a vs H Q E) : t_Medium_wait K a { nx := fun _ H' => Q .non H', rt := Q } (L2.start N_Medium_wait vs) H := by
  obtain ⟨p, B, W, m, way, rfl, M, q⟩ := h
  obtain ⟨as, hB, hal⟩ := M.b
  obtain ⟨ws, hW, hwl⟩ := M.w
  obtain ⟨dm, om⟩ := M.o
  have wl : ws.length = way.length := hwl.len
  unfold t_Medium_wait
  walk_at "go"
  refine g_Medium_on_way T ⟨dm, om⟩ ?_
  walk_at "go"
  refine w_ilist2 (.of hW) ?_
  have pB : p ≠ B := ne_of om hB (by intro e; cases e)
  refine w_loop walk_list (fun i σ H' => Keep [B] H H' ∧ (∃ v w, σ = [some (.ref p), v, w]) ∧ ∃ bs : List Addr, H' B = some (.lst (bs.map V.ref)) ∧ Al (LB H') bs ((way.take i).foldl (fun m w => Fm08.arrived m w Fm08.SIZE) m) ∧
    Dm.Blocks ((way.take i).foldl (fun m w => Fm08.arrived m w Fm08.SIZE) m) ∧ ((way.take i).foldl (fun m w => Fm08.arrived m w Fm08.SIZE) m).length = m.length)
    ⟨Keep.refl _ _, ⟨_, _, rfl⟩, as, hB, hal, M.blk, rfl⟩ (fun i σ H' _ h => .of (h.1 _ _ hW (by simpa using M.ne))) ?_ ?_
  · rintro i x σ H' H'' hi ⟨k, ⟨v, w, rfl⟩, bs, hB', hal', hblk, hlen⟩ ⟨rfl, hx⟩
    rw [List.length_map] at hi
    have hi2 : i < way.length := by rw [← wl]; exact hi
    obtain ⟨z, hz⟩ : ∃ z, way[i]? = some z := ⟨way[i], by rw [List.getElem?_eq_getElem hi2]⟩
    obtain ⟨t, ht, ⟨y, e1, e2⟩⟩ := hwl.get2 hz
    have hx' : x = V.ref t := by simpa [ht] using hx.symm
    subst hx'
    have zin := M.in' z (List.mem_of_getElem? hz)
    have e1' := k _ _ e1 (by simpa using ne_of e1 hB (by intro e; cases e))
    have e2' := e2.keep k (ne_ref e2 (Dm.isBlock_ne zin.2) hB)
    refine w_gtup2 e1' ?_
    walk_at "go"
    refine w_gsub ?_
    walk_at "go"
    refine g_Medium_blocks T ⟨dm, k _ _ om (by simpa using pB)⟩ ?_
    walk_at "go"
    have bl : bs.length = m.length := hal'.len.trans hlen
    refine w_setL hB' (by rw [List.length_map, bl]; exact zin.1) ?_
    have ku : Keep [B] H'' (upd H'' B (.lst ((bs.map V.ref).set z.block (V.ref y)))) := keep_upd
    have ab := arrived_blk (k := Fm08.SIZE) hblk (by omega) zin.2
    refine ⟨k.trans ku, ⟨_, _, rfl⟩, bs.set z.block y, by rw [upd_same, map_set_ref], ?_, ?_, ?_⟩
    · rw [List.take_add_one, hz, List.foldl_append]
      show Al _ _ (Fm08.arrived _ z Fm08.SIZE)
      rw [arrived_whole hblk (by omega) zin.2]
      exact (Al.keepB ku hB' (blk_ne hblk) hal').set _ (e2'.keep ku (ne_ref e2' (Dm.isBlock_ne zin.2) hB'))
    · rw [List.take_add_one, hz, List.foldl_append]
      exact ab.1
    · rw [List.take_add_one, hz, List.foldl_append]
      exact ab.2.trans hlen
  · rintro σ H' ⟨k, ⟨v, w, rfl⟩, bs, hB', hal', hblk, hlen⟩
    rw [List.length_map, wl, List.take_length] at hal' hblk hlen
    walk_at "go"
    refine ⟨by decide, fun L nL => ?_⟩
    have sL := same_new (o := .lst []) nL
    have om' := sL _ _ (k _ _ om (by simpa using pB))
    walk_at "go"
    refine st_Medium_on_way T ⟨dm, om'⟩ fun H2 o2 k2 => ?_
    have nLp : L ≠ p := by
      intro e
      rw [e, k _ _ om (by simpa using pB)] at nL
      cases nL
    have nLB : L ≠ B := fun e => by rw [e, hB'] at nL; cases nL
    have keep2 : ∀ {q : Addr} {o : HO}, (upd H' L (.lst [])) q = some o → q ≠ p → H2 q = some o := fun e n => k2 _ _ e (by simpa using n)
    refine q H2 L ⟨o2, ⟨bs, keep2 (sL _ _ hB') pB.symm, ?_⟩, ⟨[], keep2 upd_same nLp, trivial⟩, nLB, hblk, by simp⟩ ?_ ?_
    · exact (hal'.sameB sL).imp fun x b h => keep2 h (ne_of h om' (by intro e; cases e))
    · refine ((k.mono (by simp)).trans (Keep.of sL)).trans (k2.mono (by simp))
    · cases e : H L with
      | none => rfl
      | some o =>
        rw [k _ _ e (by simpa using nLB)] at nL
        cases nL
theorem ln_Medium_act (h : sp_Medium_act K a vs H Q E) : vs.length = 2 := by obtain ⟨p, B, W, m, way, v, c, rfl, _⟩ := h; rfl
theorem pure_Medium_act (T : Tx K mg a) (h : sp_Medium_act K a vs H Q E) : t_Medium_act K a { nx := fun _ H' => Q .non H', rt := Q } (L2.start N_Medium_act vs) H := by
  obtain ⟨p, B, W, m, way, v, c, rfl, M, hl, hc, ok, q⟩ := h
  unfold t_Medium_act
  walk_at "go"
  cases c with
  | barrier =>
    cases (hc : v = .non)
    rw [non_non]
    refine w_tt ?_
    obtain ⟨dm, om⟩ := M.o
    walk_at "go"
    refine m_Medium_wait ⟨dm, om⟩ ?_
    walk_at "go"
    refine ⟨p, B, W, m, way, rfl, M, fun H' W' M' k n => q H' W' M' (k.mono (by simp)) (.inr n)⟩
  | write b x =>
    obtain ⟨t, rfl, ⟨y, e1, e2⟩⟩ := hc
    rw [ref_non]
    refine w_ff ?_
    walk_at "go"
    refine g_Medium_on_way T M.o ?_
    obtain ⟨ws, hW, hwl⟩ := M.w
    obtain ⟨as, hB, hal⟩ := M.b
    obtain ⟨dm, om⟩ := M.o
    walk_at "go"
    refine w_tyl hW ?_
    walk_at "go"
    refine x_appK hW (by rw [List.length_map, hwl.len]; show _ < 16777216; omega) fun H' k h' => ?_
    have wne : ∀ w ∈ way, w.bytes ≠ [] := fun w hw => Dm.isBlock_ne (M.in' w hw).2
    refine q H' W ⟨⟨dm, k _ _ om (by simpa using ne_of om hW (by intro e; cases e))⟩, ⟨as, k _ _ hB (by simpa using M.ne.symm), Al.keepB k hW (blk_ne M.blk) hal⟩, ⟨ws ++ [t], by simpa using h', ?_⟩, M.ne, M.blk, ?_⟩ (k.mono (by simp)) (.inl rfl)
    · refine (Al.keepW k hW (no_int_refs ws) wne hwl).snoc ⟨y, k _ _ e1 (by simpa using ne_of e1 hW (by intro e; cases e)), e2.keep k (ne_ref e2 (Dm.isBlock_ne ok.2) hW)⟩
    · intro w hw
      rcases List.mem_append.mp hw with z | z
      · exact M.in' w z
      · rw [List.mem_singleton.mp z]; exact ok
theorem ln_Medium_put_first_bytes (h : sp_Medium_put_first_bytes K a vs H Q E) : vs.length = 3 := by obtain ⟨p, B, W, m, way, t, w, k, rfl, _⟩ := h; rfl
theorem pure_Medium_put_first_bytes (T : Tx K mg a) (h : sp_Medium_put_first_bytes K a vs H Q E) : t_Medium_put_first_bytes K a { nx := fun _ H' => Q .non H', rt := Q } (L2.start N_Medium_put_first_bytes vs) H := by
  obtain ⟨p, B, W, m, way, t, w, k, rfl, M, ⟨y, e1, e2⟩, hw, wb, q⟩ := h
  obtain ⟨as, hB, hal⟩ := M.b
  obtain ⟨ws, hW, hwl⟩ := M.w
  obtain ⟨dm, om⟩ := M.o
  obtain ⟨b, hb⟩ : ∃ b, m[w.block]? = some b := ⟨m[w.block], by simp [hw]⟩
  obtain ⟨x, hx, hX⟩ := hal.get2 hb
  have eb : m.getD w.block [] = b := by rw [List.getD_eq_getElem?_getD, hb]; rfl
  have lb := ((Dm.isBlock_iff _).mp (M.blk b (List.mem_of_getElem? hb))).1
  have lw := ((Dm.isBlock_iff _).mp wb).1
  unfold t_Medium_put_first_bytes
  walk_at "go"
  refine w_ixT (.of e1) (atI_nat (j := 0) rfl) ?_
  walk_at "go"
  refine w_ixT (.of e1) (atI_nat (j := 1) rfl) ?_
  walk_at "go"
  refine x_slice e2.sq (c := w.bytes.take k) (by rw [cut_to, il_take]) fun H1 D1 s1 n1 b1 => ?_
  walk_at "go"
  refine g_Medium_blocks T ⟨dm, s1 _ _ om⟩ ?_
  walk_at "go"
  refine w_ixL (.of (s1 _ _ hB)) (atI_nat (show (as.map V.ref)[w.block]? = some (V.ref x) by simp [hx])) ?_
  walk_at "go"
  refine x_slice (hX.mono s1).sq (c := b.drop k) (by rw [cut_from, il_drop]) fun H2 D2 s2 n2 b2 => ?_
  walk_at "go"
  refine x_cat (b1.mono s2) b2 (by rw [List.length_take, List.length_drop]; show _ ≤ 16777216; omega) fun H3 D3 s3 n3 b3 => ?_
  have s := (s1.trans s2).trans s3
  have n0 : H D3 = none := (s1.trans s2).free n3
  walk_at "go"
  refine w_gsub ?_
  walk_at "go"
  refine g_Medium_blocks T ⟨dm, s _ _ om⟩ ?_
  walk_at "go"
  refine w_setL (s _ _ hB) (by rw [List.length_map, hal.len]; exact hw) ?_
  have ku : Keep [B] H3 (upd H3 B (.lst ((as.map V.ref).set w.block (V.ref D3)))) := keep_upd
  have ab := arrived_blk (k := k) M.blk hw wb
  have DB : D3 ≠ B := (ne_of_none hB n0).symm
  have wne : ∀ w ∈ way, w.bytes ≠ [] := fun w hw => Dm.isBlock_ne (M.in' w hw).2
  refine q _ ⟨⟨dm, ku _ _ (s _ _ om) (by simpa using ne_of om hB (by intro e; cases e))⟩, ⟨as.set w.block D3, by rw [upd_same, map_set_ref], ?_⟩, ⟨ws, ku _ _ (s _ _ hW) (by simpa using M.ne), Al.keepW ku (s _ _ hB) (no_int_refs as) wne (hwl.imp fun _ _ k => k.mono s)⟩, M.ne, ab.1, fun z hz => ?_⟩ ((Keep.of s).trans ku)
  · unfold Fm08.arrived
    rw [eb]
    exact (Al.keepB ku (s _ _ hB) (blk_ne M.blk) (hal.sameB s)).set _ (b3.keep ku DB)
  · rw [ab.2]; exact M.in' z hz
theorem ln_Medium_arrive (h : sp_Medium_arrive K a vs H Q E) : vs.length = 2 := by obtain ⟨p, B, W, m, way, r, row, rfl, _⟩ := h; rfl
theorem reached_snoc (m : List Fm08.Bytes) (way : List Fm08.Write) (l : List Nat) (x : Nat) : Fm08.reached m way (l ++ [x]) = match way[x / 1024]? with
    | some w => Fm08.arrived (Fm08.reached m way l) w (min (x % 1024) Fm08.SIZE)
    | none => Fm08.reached m way l := by unfold Fm08.reached; rw [List.foldl_append]; rfl
theorem pure_Medium_arrive (T : Tx K mg a) (h : sp_Medium_arrive K a vs H Q E) : t_Medium_arrive K a { nx := fun _ H' => Q .non H', rt := Q } (L2.start N_Medium_arrive vs) H := by
  obtain ⟨p, B, W, m, way, r, row, rfl, M, hr, rB, q⟩ := h
  unfold t_Medium_arrive
  walk_at "go"
  refine w_ilist2 hr.sq ?_
  refine w_loop walk_list (fun i σ H' => Keep [B] H H' ∧ (∃ v w, σ = [some (.ref p), some (.ref r), v, w]) ∧ MedAt a H' p B W (Fm08.reached m way (row.take i)) way)
    ⟨Keep.refl _ _, ⟨_, _, rfl⟩, M⟩ (fun i σ H' _ h => (hr.keep h.1 rB).sq) ?_ ?_
  · rintro i x σ H' H'' hi ⟨k, ⟨v, w, rfl⟩, M'⟩ ⟨rfl, hx⟩
    rw [il_len] at hi
    obtain ⟨z, hz⟩ : ∃ z, row[i]? = some z := ⟨row[i], by simp [hi]⟩
    rw [il_get hz] at hx
    cases hx
    have step := reached_snoc m way (row.take i) z
    have tk : row.take (i + 1) = row.take i ++ [z] := by rw [List.take_add_one, hz]; rfl
    rw [← tk] at step
    walk_at "go"
    refine w_divK 1024 rfl (by decide) (by decide) ?_
    walk_at "go"
    refine g_Medium_on_way T M'.o ?_
    obtain ⟨ws, hW, hwl⟩ := M'.w
    walk_at "go"
    refine w_len (.of hW) ?_
    rw [List.length_map, hwl.len]
    walk_at "go"
    refine w_dec (fun c => ?_) (fun c => ?_)
    · have cl : z / 1024 < way.length := by omega
      obtain ⟨y, hy⟩ : ∃ y, way[z / 1024]? = some y := ⟨way[z / 1024], by rw [List.getElem?_eq_getElem]⟩
      obtain ⟨t, ht, hT⟩ := hwl.get2 hy
      rw [hy] at step
      have yin := M'.in' y (List.mem_of_getElem? hy)
      obtain ⟨dm, om⟩ := M'.o
      walk_at "go"
      refine m_Medium_put_first_bytes ⟨dm, om⟩ ?_
      walk_at "go"
      refine g_Medium_on_way T ⟨dm, om⟩ ?_
      walk_at "go"
      refine w_ixL (.of hW) (atI_nat (show (ws.map V.ref)[z / 1024]? = some (V.ref t) by simp [ht])) ?_
      walk_at "go"
      refine w_modK 1024 rfl (by decide) ?_
      walk_at "go"
      refine w_min ?_
      have em : (if (512 : Int) < ((z % 1024 : Nat) : Int) then (512 : Int) else ((z % 1024 : Nat) : Int)) = ((min (z % 1024) Fm08.SIZE : Nat) : Int) := by
        unfold Fm08.SIZE
        by_cases h : (512 : Int) < ((z % 1024 : Nat) : Int)
        · rw [if_pos h, Nat.min_eq_right (by omega)]; rfl
        · rw [if_neg h, Nat.min_eq_left (by omega)]
      rw [em]
      walk_at "go"
      refine ⟨p, B, W, _, way, t, y, min (z % 1024) Fm08.SIZE, rfl, M', hT, yin.1, yin.2, fun H3 M3 k3 => ?_⟩
      exact ⟨k.trans k3, ⟨_, _, rfl⟩, by rw [step]; exact M3⟩
    · have e : way[z / 1024]? = none := List.getElem?_eq_none (by omega)
      rw [e] at step
      walk_at "go"
      exact ⟨k, ⟨_, _, rfl⟩, by rw [step]; exact M'⟩
  · rintro σ H' ⟨k, ⟨v, w, rfl⟩, M'⟩
    rw [il_len, List.take_length] at M'
    exact q H' M' k
theorem ln_Medium_lose (h : sp_Medium_lose K a vs H Q E) : vs.length = 1 := by obtain ⟨p, B, W, m, way, rfl, _⟩ := h; rfl
theorem pure_Medium_lose (T : Tx K mg a) (h : sp_Medium_lose K a vs H Q E) : t_Medium_lose K a { nx := fun _ H' => Q .non H', rt := Q } (L2.start N_Medium_lose vs) H := by
  obtain ⟨p, B, W, m, way, rfl, M, q⟩ := h
  obtain ⟨as, hB, hal⟩ := M.b
  obtain ⟨dm, om⟩ := M.o
  unfold t_Medium_lose
  walk_at "go"
  refine ⟨by decide, fun L nL => ?_⟩
  have sL := same_new (o := .lst []) nL
  walk_at "go"
  refine st_Medium_on_way T ⟨dm, sL _ _ om⟩ fun H2 o2 k2 => ?_
  have nLp : L ≠ p := (ne_of_none om nL).symm
  have nLB : L ≠ B := (ne_of_none hB nL).symm
  have pB : p ≠ B := ne_of om hB (by intro e; cases e)
  refine q H2 L ⟨o2, ⟨as, k2 _ _ (sL _ _ hB) (by simpa using pB.symm), ?_⟩, ⟨[], k2 _ _ upd_same (by simpa using nLp), trivial⟩, nLB, M.blk, by simp⟩ ((Keep.of sL).trans k2) nL
  exact (hal.sameB sL).imp fun x b h => k2 _ _ h (by simpa using ne_of h (sL _ _ om) (by intro e; cases e))
end
end Dk
namespace Dk
open PySem PySem.Spec PyProof.Rows L2
local macro_rules | `(tactic| walk_at "s1") => `(tactic| with_reducible first
  | refine w_seq ?_ | refine w_asg ?_ | refine w_drop ?_ | refine w_ret ?_ | refine w_retN ?_ | refine w_next ?_ | refine w_if ?_ | refine w_c ?_ | refine w_op ?_ | refine w_un ?_
  | refine w_fld ?_ | refine w_sfld ?_ | refine w_meth ?_ | refine w_call ?_ | refine w_cons ?_ | refine w_nil ?_ | refine w_cb ?_ | refine w_gname ?_ | refine w_lst ?_ | refine w_tup ?_
  | refine w_sl ?_ | refine w_nopart ?_ | refine w_part ?_ | refine w_parti ?_ | refine w_bm ?_ | refine w_test ?_ | refine w_tB ?_ | refine w_not ?_ | refine w_and_t ?_ | refine w_or_t ?_ | refine w_andV ?_ | refine w_orV ?_
  | refine w_for ?_ | refine w_ilist ?_ | refine w_rng1 ?_ | refine w_rev ?_ | refine w_istr ?_ | refine w_istr2 ?_ | refine w_zip ?_ | refine w_enum ?_ | refine w_lc ?_ | refine w_break ?_ | refine w_cont ?_ | refine w_dnew ?_
  | refine w_make ?_ | refine w_bl ?_ | refine w_isN ?_ | refine w_notN ?_ | refine w_neg ?_
  | refine w_add ?_ | refine w_sub ?_ | refine w_lt ?_ | refine w_le ?_ | refine w_gt ?_ | refine w_ge ?_ | refine w_eqI ?_ | refine w_neI ?_)
local macro_rules | `(tactic| walk_at "sv") => `(tactic| ((with_reducible refine' w_var ?hh ?_); (case hh => exact rfl)))
local macro_rules | `(tactic| walk_at "st") => `(tactic| first | walk_at "s1" | walk_at "sv")
local macro_rules | `(tactic| walk_at "go") => `(tactic| repeat' walk_at "st")
local macro_rules | `(tactic| walk_at "s1x") => `(tactic| with_reducible first
  | refine w_seq ?_ | refine w_asg ?_ | refine w_drop ?_ | refine w_ret ?_ | refine w_retN ?_ | refine w_next ?_ | refine w_c ?_ | refine w_op ?_ | refine w_un ?_
  | refine w_fld ?_ | refine w_sfld ?_ | refine w_meth ?_ | refine w_call ?_ | refine w_cons ?_ | refine w_nil ?_ | refine w_cb ?_ | refine w_gname ?_ | refine w_lst ?_ | refine w_tup ?_
  | refine w_sl ?_ | refine w_nopart ?_ | refine w_part ?_ | refine w_parti ?_ | refine w_bm ?_ | refine w_test ?_ | refine w_tB ?_ | refine w_not ?_ | refine w_and_t ?_ | refine w_or_t ?_ | refine w_andV ?_ | refine w_orV ?_
  | refine w_for ?_ | refine w_ilist ?_ | refine w_rng1 ?_ | refine w_rev ?_ | refine w_istr ?_ | refine w_istr2 ?_ | refine w_zip ?_ | refine w_enum ?_ | refine w_lc ?_ | refine w_break ?_ | refine w_cont ?_ | refine w_dnew ?_
  | refine w_make ?_ | refine w_bl ?_ | refine w_isN ?_ | refine w_notN ?_ | refine w_neg ?_
  | refine w_add ?_ | refine w_sub ?_ | refine w_lt ?_ | refine w_le ?_ | refine w_gt ?_ | refine w_ge ?_ | refine w_eqI ?_ | refine w_neI ?_)
local macro_rules | `(tactic| walk_at "gx") => `(tactic| repeat' first | walk_at "s1x" | walk_at "sv")
section
variable {K : PySem.W.Frag} {mg : Str → Option Value} {a : Ad} {vs : List V} {H H0 : Hp} {Q : VK} {E : XK} {σ : L2.St}
theorem ln_Known_init (h : sp_Known_init K a vs H Q E) : vs.length = 2 := by obtain ⟨p, dx, hd, g, s, nm, pl, rfl, _⟩ := h; rfl
theorem pure_Known_init (T : Tx K mg a) (h : sp_Known_init K a vs H Q E) : t_Known_init K a { nx := fun _ H' => Q .non H', rt := Q } (L2.start N_Known_init vs) H := by
  obtain ⟨p, dx, hd, g, s, nm, pl, rfl, hp, ⟨dh, oh⟩, q⟩ := h
  have ne : hd ≠ p := ne_of oh hp (by intro e; have := (HO.ins.inj e).2.2; cases this)
  unfold t_Known_init
  walk_at "go"
  refine ini_Known_head T hp fun H1 h1 k1 => ?_
  walk_at "go"
  have oh1 := k1 _ _ oh (by simpa using ne)
  refine g_Head_number T ⟨dh, oh1⟩ ?_
  walk_at "go"
  refine ini_Known_number T h1 fun H2 h2 k2 => ?_
  walk_at "go"
  have oh2 := k2 _ _ oh1 (by simpa using ne)
  refine g_Head_place T ⟨dh, oh2⟩ ?_
  walk_at "go"
  refine ini_Known_place T h2 fun H3 h3 k3 => ?_
  walk_at "go"
  refine ini_Known_taken T h3 fun H4 h4 k4 => ?_
  walk_at "go"
  intro D nD
  have sD := same_new (o := .dK []) nD
  have nDp : D ≠ p := (ne_of_none h4 nD).symm
  walk_at "go"
  have k : Keep [p] H H4 := ((k1.trans k2).trans k3).trans k4
  refine ini_Known_newest T (sD _ _ h4) fun H5 h5 k5 => ?_
  refine q H5 D ⟨dx, h5⟩ (k5 _ _ upd_same (by simpa using nDp)) ?_ ((k.trans (Keep.of sD)).trans k5)
  cases e : H D with
  | none => rfl
  | some o => rw [k _ _ e (by simpa using nDp)] at nD; cases nD
theorem ln_refused (h : sp_refused K a vs H Q E) : vs.length = 1 := by obtain ⟨z, rfl, _⟩ := h; rfl
theorem pure_refused (T : Tx K mg a) (h : sp_refused K a vs H Q E) : t_refused K a { nx := fun _ H' => Q .non H', rt := Q } (L2.start N_refused vs) H := by
  obtain ⟨z, rfl, q⟩ := h
  unfold t_refused
  walk_at "go"
  refine ⟨by decide, fun L nL => ?_⟩
  have sL := same_new (o := .lst []) nL
  walk_at "go"
  exact mk_Operation fun X H1 s1 nX oX => q H1 X (sL.trans s1) (sL.free nX) fun n => ⟨L, oX, nL, s1 _ _ upd_same⟩
theorem ln_Shape_block_of_home (h : sp_Shape_block_of_home K a vs H Q E) : vs.length = 2 := by obtain ⟨p, n, j, k, rfl, _⟩ := h; rfl
theorem pure_Shape_block_of_home (T : Tx K mg a) (h : sp_Shape_block_of_home K a vs H Q E) : t_Shape_block_of_home K a { nx := fun _ H' => Q .non H', rt := Q } (L2.start N_Shape_block_of_home vs) H := by
  obtain ⟨p, n, j, k, rfl, hp, q⟩ := h
  unfold t_Shape_block_of_home
  walk_at "go"
  refine g_Shape_place_count T hp ?_
  walk_at "go"
  exact q
theorem ln_Shape_block_of_place (h : sp_Shape_block_of_place K a vs H Q E) : vs.length = 2 := by obtain ⟨p, n, j, k, rfl, _⟩ := h; rfl
theorem pure_Shape_block_of_place (T : Tx K mg a) (h : sp_Shape_block_of_place K a vs H Q E) : t_Shape_block_of_place K a { nx := fun _ H' => Q .non H', rt := Q } (L2.start N_Shape_block_of_place vs) H := by
  obtain ⟨p, n, j, k, rfl, hp, hj, q⟩ := h
  unfold t_Shape_block_of_place
  walk_at "go"
  refine g_Shape_place_count T hp ?_
  walk_at "go"
  refine w_mod hj ?_
  walk_at "go"
  rw [show (2 : Int) + ((k % j : Nat) : Int) = ((2 + k % j : Nat) : Int) by omega]
  exact q
/-! ### the dict of newest blocks -/
theorem kd_find {k : Nat} : ∀ {kvs : List (Nat × Addr)} {m : List (Nat × Fm08.Bytes)}, Al (KB H) kvs m → (match m.find? fun x => x.1 == k with
    | some y => ∃ x, valV (kd kvs) (Sum.inl (k : Int)) = some (V.ref x) ∧ LB H x y.2
    | none => valV (kd kvs) (Sum.inl (k : Int)) = none)
  | [], [], _ => rfl
  | x :: kvs, y :: m, h => by
    by_cases c : y.1 = k
    · rw [List.find?_cons_of_pos (by simp [c])]
      exact ⟨x.2, valV_pos (by show Sum.inl (x.1 : Int) = Sum.inl (k : Int); rw [h.1.1, c]), h.1.2⟩
    · rw [List.find?_cons_of_neg (by simpa using c)]
      have ih := kd_find (k := k) h.2
      have e : valV (kd (x :: kvs)) (Sum.inl (k : Int)) = valV (kd kvs) (Sum.inl (k : Int)) := valV_neg (by
        intro e
        have := Sum.inl.inj e
        have := h.1.1
        omega)
      rw [e]
      exact ih
  | [], _ :: _, h => h.elim
  | _ :: _, [], h => h.elim
theorem kd_put (kvs : List (Nat × Addr)) (k : Nat) (x : Addr) : putK (kd kvs) (Sum.inl (k : Int)) (V.ref x) = kd (Dm.pput kvs k x) := by
  have e : ∀ y : Nat, (Sum.inl (y : Int) : Key) = Sum.inl (k : Int) ↔ y = k := fun y => ⟨fun h => by have := Sum.inl.inj h; omega, fun h => by rw [h]⟩
  have ea : ((kd kvs).any fun kv => decide (kv.1 = Sum.inl (k : Int))) = kvs.any fun x => decide (x.1 = k) := by
    unfold kd
    rw [List.any_map]
    exact Dm.all_eq_any fun x _ => by simp [e]
  unfold putK Dm.pput
  rw [ea]
  cases kvs.any fun x => decide (x.1 = k) with
  | true =>
    rw [if_pos rfl, if_pos rfl]
    unfold kd
    rw [List.map_map, List.map_map]
    refine List.map_congr_left fun y _ => ?_
    by_cases c : y.1 = k
    · simp [c, e]
    · simp [c, e]
  | false =>
    rw [if_neg Bool.false_ne_true, if_neg Bool.false_ne_true]
    simp [kd]
theorem Al.pput {k : Nat} {x : Addr} {b : Fm08.Bytes} {kvs : List (Nat × Addr)} {m : List (Nat × Fm08.Bytes)} (h : Al (KB H) kvs m) (hx : LB H x b) : Al (KB H) (Dm.pput kvs k x) (Dm.pput m k b) := by
  have ea : ∀ {kvs : List (Nat × Addr)} {m : List (Nat × Fm08.Bytes)}, Al (KB H) kvs m → (kvs.any fun x => decide (x.1 = k)) = m.any fun x => decide (x.1 = k) := by
    intro kvs m h
    induction kvs generalizing m with
    | nil => cases m with
      | nil => rfl
      | cons y m => exact h.elim
    | cons z kvs ih => cases m with
      | nil => exact h.elim
      | cons y m => rw [List.any_cons, List.any_cons, ih h.2, h.1.1]
  have em : ∀ {kvs : List (Nat × Addr)} {m : List (Nat × Fm08.Bytes)}, Al (KB H) kvs m → Al (KB H) (kvs.map fun z => if z.1 = k then (k, x) else z) (m.map fun z => if z.1 = k then (k, b) else z) := by
    intro kvs m h
    induction kvs generalizing m with
    | nil => cases m with
      | nil => trivial
      | cons y m => exact h.elim
    | cons z kvs ih => cases m with
      | nil => exact h.elim
      | cons y m =>
        refine ⟨?_, ih h.2⟩
        show KB H (if z.1 = k then (k, x) else z) (if y.1 = k then (k, b) else y)
        by_cases c : z.1 = k
        · rw [if_pos c, if_pos (by rw [← h.1.1]; exact c)]
          exact ⟨rfl, hx⟩
        · rw [if_neg c, if_neg (by rw [← h.1.1]; exact c)]
          exact h.1
  unfold Dm.pput
  rw [ea h]
  split
  · exact em h
  · exact h.snoc ⟨rfl, hx⟩
theorem kd_keys {kvs : List (Nat × Addr)} {m : List (Nat × Fm08.Bytes)} (h : Al (KB H) kvs m) : (kd kvs).map (·.1) = (m.map fun x => (x.1 : Int)).map Sum.inl := by
  induction kvs generalizing m with
  | nil => cases m with
    | nil => rfl
    | cons y m => exact h.elim
  | cons z kvs ih => cases m with
    | nil => exact h.elim
    | cons y m =>
      show (Sum.inl (z.1 : Int) : Key) :: (kd kvs).map (·.1) = Sum.inl (y.1 : Int) :: _
      rw [ih h.2, h.1.1]
theorem NewAt.get {p : Addr} {over : List (Nat × Fm08.Bytes)} {k : Nat} (h : NewAt H p over) (hs : Dm.Sorted over) : ∃ o, DGet H p (.int k) o ∧ (match over.find? fun x => x.1 == k with
    | some y => ∃ x, o = some (V.ref x) ∧ LB H x y.2
    | none => o = none) := by
  obtain ⟨kvs, m, h1, h2, h3⟩ := h
  refine ⟨_, DGet.k (k := Sum.inl (k : Int)) h1, ?_⟩
  rw [← Dm.find_perm h3 hs]
  exact kd_find h2
end
end Dk
namespace Dk
open PySem PySem.Spec PyProof.Rows L2
local macro_rules | `(tactic| walk_at "s1") => `(tactic| with_reducible first
  | refine w_seq ?_ | refine w_asg ?_ | refine w_drop ?_ | refine w_ret ?_ | refine w_retN ?_ | refine w_next ?_ | refine w_if ?_ | refine w_c ?_ | refine w_op ?_ | refine w_un ?_
  | refine w_fld ?_ | refine w_sfld ?_ | refine w_meth ?_ | refine w_call ?_ | refine w_cons ?_ | refine w_nil ?_ | refine w_cb ?_ | refine w_gname ?_ | refine w_lst ?_ | refine w_tup ?_
  | refine w_sl ?_ | refine w_nopart ?_ | refine w_part ?_ | refine w_parti ?_ | refine w_bm ?_ | refine w_test ?_ | refine w_tB ?_ | refine w_not ?_ | refine w_and_t ?_ | refine w_or_t ?_ | refine w_andV ?_ | refine w_orV ?_
  | refine w_for ?_ | refine w_ilist ?_ | refine w_rng1 ?_ | refine w_rev ?_ | refine w_istr ?_ | refine w_istr2 ?_ | refine w_zip ?_ | refine w_enum ?_ | refine w_lc ?_ | refine w_break ?_ | refine w_cont ?_ | refine w_dnew ?_
  | refine w_make ?_ | refine w_bl ?_ | refine w_isN ?_ | refine w_notN ?_ | refine w_neg ?_
  | refine w_add ?_ | refine w_sub ?_ | refine w_lt ?_ | refine w_le ?_ | refine w_gt ?_ | refine w_ge ?_ | refine w_eqI ?_ | refine w_neI ?_)
local macro_rules | `(tactic| walk_at "sv") => `(tactic| ((with_reducible refine' w_var ?hh ?_); (case hh => exact rfl)))
local macro_rules | `(tactic| walk_at "st") => `(tactic| first | walk_at "s1" | walk_at "sv")
local macro_rules | `(tactic| walk_at "go") => `(tactic| repeat' walk_at "st")
local macro_rules | `(tactic| walk_at "s1x") => `(tactic| with_reducible first
  | refine w_seq ?_ | refine w_asg ?_ | refine w_drop ?_ | refine w_ret ?_ | refine w_retN ?_ | refine w_next ?_ | refine w_c ?_ | refine w_op ?_ | refine w_un ?_
  | refine w_fld ?_ | refine w_sfld ?_ | refine w_meth ?_ | refine w_call ?_ | refine w_cons ?_ | refine w_nil ?_ | refine w_cb ?_ | refine w_gname ?_ | refine w_lst ?_ | refine w_tup ?_
  | refine w_sl ?_ | refine w_nopart ?_ | refine w_part ?_ | refine w_parti ?_ | refine w_bm ?_ | refine w_test ?_ | refine w_tB ?_ | refine w_not ?_ | refine w_and_t ?_ | refine w_or_t ?_ | refine w_andV ?_ | refine w_orV ?_
  | refine w_for ?_ | refine w_ilist ?_ | refine w_rng1 ?_ | refine w_rev ?_ | refine w_istr ?_ | refine w_istr2 ?_ | refine w_zip ?_ | refine w_enum ?_ | refine w_lc ?_ | refine w_break ?_ | refine w_cont ?_ | refine w_dnew ?_
  | refine w_make ?_ | refine w_bl ?_ | refine w_isN ?_ | refine w_notN ?_ | refine w_neg ?_
  | refine w_add ?_ | refine w_sub ?_ | refine w_lt ?_ | refine w_le ?_ | refine w_gt ?_ | refine w_ge ?_ | refine w_eqI ?_ | refine w_neI ?_)
local macro_rules | `(tactic| walk_at "gx") => `(tactic| repeat' first | walk_at "s1x" | walk_at "sv")
section
variable {K : PySem.W.Frag} {mg : Str → Option Value} {a : Ad} {vs : List V} {H H0 : Hp} {Q : VK} {E : XK} {σ : L2.St}
theorem w_dget {td ty : TE} (h : td σ H fun x H1 => ty σ H1 fun y H2 => ∃ a v, x = .ref a ∧ DGet H2 a y (some v) ∧ Q v H2) : tDGet td ty σ H Q := h
theorem no_int_cons {v : V} {xs : List V} (h : ∀ i, V.int i ∉ xs) (hv : ∀ i, v ≠ .int i) : ∀ i, V.int i ∉ xs ++ [v] := fun i m => by
  rcases List.mem_append.mp m with z | z
  · exact h i z
  · exact hv i (List.mem_singleton.mp z).symm
/-- a list of actions is changed elsewhere -/
theorem ActAt.keep {H' : Hp} {L : Addr} {xs : List V} {v : V} {c : Fm08.Act} (k : Keep [L] H H') (hL : H L = some (.lst xs)) (hx : ∀ i, V.int i ∉ xs) (n : ∀ b x, c = .write b x → x ≠ []) (h : ActAt H v c) : ActAt H' v c := by
  cases c with
  | barrier => exact h
  | write b x =>
    obtain ⟨t, rfl, y, e1, e2⟩ := h
    refine ⟨t, rfl, y, k _ _ e1 (by simpa using ne_of e1 hL (by intro e; cases e)), e2.keep k (ne_of e2 hL fun e => ?_)⟩
    have nx := n b x rfl
    cases eb : x with
    | nil => exact nx eb
    | cons z r =>
      rw [eb] at e
      exact hx z (by rw [← (HO.lst.inj e : il (z :: r) = xs)]; simp [il])
theorem Al.keepA {H' : Hp} {L : Addr} {xs : List V} (k : Keep [L] H H') (hL : H L = some (.lst xs)) (hx : ∀ i, V.int i ∉ xs) : ∀ {ws : List V} {l : List Fm08.Act}, (∀ c ∈ l, ∀ b x, c = .write b x → x ≠ []) → Al (ActAt H) ws l → Al (ActAt H') ws l
  | [], [], _, _ => trivial
  | _ :: ws, _ :: l, n, h => ⟨h.1.keep k hL hx (n _ (by simp)), Al.keepA k hL hx (ws := ws) (l := l) (fun c q => n c (by simp [q])) h.2⟩
  | [], _ :: _, _, h => h.elim
  | _ :: _, [], _, h => h.elim
theorem act_no_int {ws : List V} {l : List Fm08.Act} (h : Al (ActAt H) ws l) : ∀ i, V.int i ∉ ws := fun i m => by
  obtain ⟨j, hj⟩ := List.mem_iff_getElem?.mp m
  obtain ⟨c, _, hc⟩ := h.get hj
  cases c with
  | barrier => cases (hc : V.int i = .non)
  | write b x => obtain ⟨t, e, _⟩ := hc; cases e
/-- a comprehension whose items are actions -/
theorem w_compA {J : It} {te : TE} {G : Hp → Prop} {Y : Nat → Hp → V → Hp → Prop} {l : List Fm08.Act} (w : Walk J l.length G Y) {i0 : Nat} {p : Addr} {Qd : Hp → Prop} (hn : l.length ≤ sizeLine) (np : H p = none) (s : ∀ H', Same H H' → G H') (nz : ∀ c ∈ l, ∀ b x, c = .write b x → x ≠ [])
    (hY : ∀ i x H' H'', Y i H' x H'' → H'' = H') (hs : ∀ i c x H' , l[i]? = some c → Same H H' → Y i H' x H' → ∀ R : VK, (∀ v H4, Same H' H4 → ActAt H4 v c → R v H4) → te ((σ.set i0 none).set i0 (some x)) H' R)
    (hd : ∀ H', Same H H' → ActsAt H' p l → Qd H') : lcB J (gName i0) tYes te [i0] σ H p Qd := by
  refine lc_it w (fun i H' => Same H H' ∧ ∃ vs, H' p = some (.lst vs) ∧ Al (ActAt H') vs (l.take i)) ⟨same_new np, [], upd_same, by simp [Al]⟩ (fun i H' _ h => s H' h.1) ?_ (fun H' h => hd H' h.1 (by have := h.2; rw [List.take_length] at this; exact this))
  intro i x H' H'' hi ⟨h1, vs, h2, h3⟩ hy
  have e := hY i x H' H'' hy
  subst e
  obtain ⟨c, hc⟩ : ∃ c, l[i]? = some c := ⟨l[i], by simp [hi]⟩
  refine ⟨?_, ?_⟩
  · show List.set ((σ.set i0 none).set i0 (some x)) i0 none = σ.set i0 none
    rw [List.set_set, List.set_set]
  · show te ((σ.set i0 none).set i0 (some x)) H'' fun y H4 => ∃ acc, H4 p = some (.lst acc) ∧ acc.length < sizeLine ∧ _
    refine hs i c x H'' hc h1 hy _ fun v H4 s4 hv => ?_
    have e4 := s4 _ _ h2
    have h4 : Al (ActAt H4) vs (l.take i) := h3.imp fun _ _ k => k.mono s4
    have k : Keep [p] H4 (upd H4 p (.lst (vs ++ [v]))) := keep_upd
    have nt : ∀ c ∈ l.take i, ∀ b x, c = .write b x → x ≠ [] := fun c m => nz c (List.mem_of_mem_take m)
    refine ⟨vs, e4, by rw [h3.len, List.length_take]; omega, fun b o eb => ?_, vs ++ [v], upd_same, ?_⟩
    · rw [upd_ne (ne_of_none eb np)]
      exact s4 _ _ (h1 _ _ eb)
    · rw [List.take_add_one, hc]
      exact (Al.keepA k e4 (act_no_int h4) nt h4).snoc (hv.keep k e4 (act_no_int h4) (nz c (List.mem_of_getElem? hc)))
theorem ln_home_writes (h : sp_home_writes K a vs H Q E) : vs.length = 2 := by obtain ⟨S, n, j, nw, over, rfl, _⟩ := h; rfl
theorem pure_home_writes (T : Tx K mg a) (h : sp_home_writes K a vs H Q E) : t_home_writes K a { nx := fun _ H' => Q .non H', rt := Q } (L2.start N_home_writes vs) H := by
  obtain ⟨S, n, j, nw, over, rfl, hS, hN, hs, hl, hne, q⟩ := h
  unfold t_home_writes
  walk_at "go"
  obtain ⟨kvs, m, h1, h2, h3⟩ := hN
  have hN : NewAt H nw over := ⟨kvs, m, h1, h2, h3⟩
  refine ⟨nw, kd kvs, m.map fun x => (x.1 : Int), rfl, .inl h1, kd_keys h2, fun ys L hp hy nL => ?_⟩
  have ey := Dm.sorted_keys hs (hp.trans (h3.map _)) hy
  subst ey
  have sL := same_new (o := .lst ((over.map fun x => (x.1 : Int)).map V.int)) nL
  refine w_ilist2 (.of upd_same) ?_
  intro p np
  have np0 : H p = none := sL.free np
  have wl := walk_list (K := K) (a := L) (xs := (over.map fun x => (x.1 : Int)).map V.int)
  rw [show ((over.map fun x => (x.1 : Int)).map V.int).length = (over.map fun x => Fm08.Act.write (2 + j + x.1) x.2).length by simp] at wl
  refine w_compA (l := over.map fun x => Fm08.Act.write (2 + j + x.1) x.2) wl (by simp [sizeLine]; omega) np (fun H' s => .of (s _ _ upd_same)) (fun c hc b x e => ?_) (fun i x H' H'' y => y.1) ?_ (fun H' s ha => q H' p (sL.trans s) np0 ha)
  · obtain ⟨z, hz, e2⟩ := List.mem_map.mp hc
    subst e2
    cases e
    exact hne z hz
  · rintro i c x H' hc s ⟨_, hx⟩ R k
    obtain ⟨z, hz⟩ : ∃ z, over[i]? = some z := by
      cases e : over[i]? with
      | none => simp [e] at hc
      | some z => exact ⟨z, rfl⟩
    have ex : x = V.int z.1 := by simpa [hz] using hx.symm
    have ec : c = .write (2 + j + z.1) z.2 := by simpa [hz] using hc.symm
    subst ex ec
    have s' := sL.trans s
    walk_at "go"
    obtain ⟨dS, oS⟩ := hS
    refine m_Shape_block_of_home ⟨dS, s' _ _ oS⟩ ?_
    walk_at "go"
    refine ⟨S, n, j, z.1, rfl, ⟨dS, s' _ _ oS⟩, ?_⟩
    walk_at "go"
    refine w_dget ?_
    walk_at "go"
    obtain ⟨o, ho, hr⟩ := NewAt.get (k := z.1) (hN.mono s') hs
    have ef : (over.find? fun x => x.1 == z.1) = some z := by
      cases e : over.find? fun x => x.1 == z.1 with
      | none => rw [List.find?_eq_none] at e; exact absurd (by simp) (e z (List.mem_of_getElem? hz))
      | some y => rw [Dm.find_uniq hs (List.mem_of_getElem? hz) (List.mem_of_find?_eq_some e) (by have := List.find?_some e; simp at this; omega)]
    rw [ef] at hr
    obtain ⟨y, rfl, hy⟩ := hr
    refine ⟨nw, _, rfl, ho, ?_⟩
    walk_at "go"
    refine ⟨by show 2 ≤ sizeLine; decide, fun t nt => ?_⟩
    refine k _ _ (same_new nt) ⟨t, rfl, y, ?_, hy.mono (same_new nt)⟩
    rw [upd_same]
    show some (HO.tup [V.int ((j : Int) + 2 + (z.1 : Int)), V.ref y]) = some (HO.tup [V.int ((2 + j + z.1 : Nat) : Int), V.ref y])
    rw [show (j : Int) + 2 + (z.1 : Int) = ((2 + j + z.1 : Nat) : Int) by omega]
theorem ln_head_write (h : sp_head_write K a vs H Q E) : vs.length = 1 := by obtain ⟨p, h, rfl, _⟩ := h; rfl
theorem pure_head_write (T : Tx K mg a) (h : sp_head_write K a vs H Q E) : t_head_write K a { nx := fun _ H' => Q .non H', rt := Q } (L2.start N_head_write vs) H := by
  obtain ⟨p, h, rfl, ⟨S, ho, hs⟩, q⟩ := h
  unfold t_head_write
  walk_at "go"
  refine g_Head_generation T ho ?_
  walk_at "go"
  refine w_modK 2 rfl (by decide) ?_
  walk_at "go"
  refine ⟨p, h, rfl, ⟨S, ho, hs⟩, fun H1 r s1 nr br => ?_⟩
  walk_at "go"
  refine ⟨by show 2 ≤ sizeLine; decide, fun t nt => ?_⟩
  exact q _ _ (s1.trans (same_new nt)) ⟨t, rfl, r, upd_same, br.mono (same_new nt)⟩
theorem ln_flush_operation (h : sp_flush_operation K a vs H Q E) : vs.length = 1 := by obtain ⟨k, n, u, rfl, _⟩ := h; rfl
theorem pure_flush_operation (T : Tx K mg a) (h : sp_flush_operation K a vs H Q E) : t_flush_operation K a { nx := fun _ H' => Q .non H', rt := Q } (L2.start N_flush_operation vs) H := by
  obtain ⟨k, n, u, rfl, hk, q⟩ := h
  unfold t_flush_operation
  walk_at "go"
  refine ⟨by show 1 ≤ sizeLine; decide, fun L nL => ?_⟩
  have sL := same_new (o := .lst [V.non]) nL
  walk_at "go"
  refine mk_Operation fun X H1 s1 nX oX => q H1 X (sL.trans s1) (sL.free nX) ⟨L, k, oX, nL, ⟨[V.non], s1 _ _ upd_same, rfl, trivial⟩, hk.mono (sL.trans s1)⟩
theorem x_catA {p q : Addr} {l1 l2 : List Fm08.Act} (h : ActsAt H p l1) (h2 : ActsAt H q l2) (l : l1.length + l2.length ≤ sizeLine) (k : ∀ H' r, Same H H' → H r = none → ActsAt H' r (l1 ++ l2) → Q (.ref r) H') : rCat (.ref p) (.ref q) H Q := by
  obtain ⟨v1, e1, a1⟩ := h
  obtain ⟨v2, e2, a2⟩ := h2
  refine w_cat e1 e2 (by rw [a1.len, a2.len]; exact l) fun r nr => k _ r (same_new nr) nr ⟨v1 ++ v2, upd_same, (a1.app a2).imp fun _ _ q => q.mono (same_new nr)⟩
theorem over_ne {n : Nat} {u : Fm08.Up} (h : UpOk n u) : ∀ x ∈ u.over, x.2 ≠ [] := fun x hx => Dm.isBlock_ne (h.ov x hx).2
theorem over_len {n : Nat} {u : Fm08.Up} (h : UpOk n u) : u.over.length ≤ 5000 := by
  have h1 := Dm.sorted_len h.so (fun x hx => (h.ov x hx).1)
  have := (Dm.shape_iff _ _).mp h.sh
  unfold Fm08.homes at h1
  omega
theorem ln_settle_operation (h : sp_settle_operation K a vs H Q E) : vs.length = 1 := by obtain ⟨k, n, u, rfl, _⟩ := h; rfl
theorem pure_settle_operation (T : Tx K mg a) (h : sp_settle_operation K a vs H Q E) : t_settle_operation K a { nx := fun _ H' => Q .non H', rt := Q } (L2.start N_settle_operation vs) H := by
  obtain ⟨k, n, u, rfl, hk, ok, q⟩ := h
  obtain ⟨hd, nw, S, nm, pl, oK, oH, hS, hN⟩ := hk.ex
  have ol := over_len ok
  unfold t_settle_operation
  walk_at "go"
  refine g_Known_taken T oK ?_
  walk_at "go"
  refine w_dec (fun c => ?_) (fun c => ?_)
  · have e : Fm08.settling n u = ([], u) := if_pos (by omega)
    rw [e] at q
    walk_at "go"
    refine ⟨by decide, fun L nL => ?_⟩
    have sL := same_new (o := .lst []) nL
    walk_at "go"
    exact mk_Operation fun X H1 s1 nX oX => q H1 X (sL.trans s1) (sL.free nX) ⟨L, k, oX, nL, ⟨[], s1 _ _ upd_same, trivial⟩, hk.mono (sL.trans s1)⟩
  have e : Fm08.settling n u = ([Fm08.Act.barrier] ++ (u.over.map fun (x : Nat × Fm08.Bytes) => Fm08.Act.write (2 + u.j + x.1) x.2) ++ [Fm08.Act.barrier, Fm08.Act.write ((u.gen + 1) % 2) (Fm08.Head.bytes ⟨u.gen + 1, n, u.j, u.next, u.place⟩), Fm08.Act.barrier], { u with used := 0, gen := u.gen + 1, over := [] }) := by
    unfold Fm08.settling
    rw [if_neg (by omega), List.append_assoc]
  rw [e] at q
  walk_at "go"
  refine g_Known_head T oK (g_Head_shape T oH ?_)
  walk_at "go"
  refine g_Known_head T oK (g_Head_generation T oH ?_)
  walk_at "go"
  refine g_Known_number T oK ?_
  walk_at "go"
  refine g_Known_place T oK ?_
  walk_at "go"
  refine mk_Head fun D H1 s1 nD oD => ?_
  rw [show (u.gen : Int) + 1 = ((u.gen + 1 : Nat) : Int) by omega] at oD
  walk_at "go"
  refine ⟨by show 1 ≤ sizeLine; decide, fun L nL => ?_⟩
  have sL := same_new (o := .lst [V.non]) nL
  have s2 := s1.trans sL
  walk_at "go"
  refine g_Known_newest T (oK.mono s2) ?_
  walk_at "go"
  refine ⟨S, n, u.j, nw, u.over, rfl, hS.mono s2, hN.mono s2, ok.so, by omega, over_ne ok, fun H3 M s3 nM aM => ?_⟩
  walk_at "go"
  have aL : ActsAt H3 L [.barrier] := ⟨[V.non], s3 _ _ upd_same, rfl, trivial⟩
  refine x_catA aL aM (by simp [sizeLine]; omega) fun H4 R s4 nR aR => ?_
  walk_at "go"
  have s5 := (s2.trans s3).trans s4
  have hD : HeadAt a H4 D ⟨u.gen + 1, n, u.j, u.next, u.place⟩ := ⟨S, ((oD.mono sL).mono s3).mono s4, hS.mono s5⟩
  refine ⟨D, _, rfl, hD, fun H5 v s6 hv => ?_⟩
  walk_at "go"
  refine ⟨by show 3 ≤ sizeLine; decide, fun Z nZ => ?_⟩
  have sZ := same_new (o := .lst [V.non, v, V.non]) nZ
  walk_at "go"
  refine x_catA ((aR.mono s6).mono sZ) (l2 := [.barrier, .write ((u.gen + 1) % 2) (Fm08.Head.bytes ⟨u.gen + 1, n, u.j, u.next, u.place⟩), .barrier]) ⟨_, upd_same, rfl, hv.mono sZ, rfl, trivial⟩ (by simp [sizeLine]; omega) fun H7 G s7 nG aG => ?_
  walk_at "go"
  have s8 := (s6.trans sZ).trans s7
  obtain ⟨S', oD7, hS7⟩ := hD.mono s8
  refine mk_Known oD7 fun k2 nw2 H8 s9 nk nn ok2 en => ?_
  walk_at "go"
  refine mk_Operation fun X H9 s10 nX oX => ?_
  have s11 := ((s5.trans s8).trans s9)
  refine q H9 X (s11.trans s10) (s11.free nX) ⟨G, k2, oX, (s5.trans (s6.trans sZ)).free nG, (aG.mono s9).mono s10, ⟨D, nw2, S', u.next, u.place, ok2.mono s10, (oD7.mono s9).mono s10, (hS7.mono s9).mono s10, [], [], s10 _ _ en, trivial, List.Perm.refl _⟩⟩
end
end Dk
namespace Dk
open PySem PySem.Spec PyProof.Rows L2
local macro_rules | `(tactic| walk_at "s1") => `(tactic| with_reducible first
  | refine w_seq ?_ | refine w_asg ?_ | refine w_drop ?_ | refine w_ret ?_ | refine w_retN ?_ | refine w_next ?_ | refine w_if ?_ | refine w_c ?_ | refine w_op ?_ | refine w_un ?_
  | refine w_fld ?_ | refine w_sfld ?_ | refine w_meth ?_ | refine w_call ?_ | refine w_cons ?_ | refine w_nil ?_ | refine w_cb ?_ | refine w_gname ?_ | refine w_lst ?_ | refine w_tup ?_
  | refine w_sl ?_ | refine w_nopart ?_ | refine w_part ?_ | refine w_parti ?_ | refine w_bm ?_ | refine w_test ?_ | refine w_tB ?_ | refine w_not ?_ | refine w_and_t ?_ | refine w_or_t ?_ | refine w_andV ?_ | refine w_orV ?_
  | refine w_for ?_ | refine w_ilist ?_ | refine w_rng1 ?_ | refine w_rev ?_ | refine w_istr ?_ | refine w_istr2 ?_ | refine w_zip ?_ | refine w_enum ?_ | refine w_lc ?_ | refine w_break ?_ | refine w_cont ?_ | refine w_dnew ?_
  | refine w_make ?_ | refine w_bl ?_ | refine w_isN ?_ | refine w_notN ?_ | refine w_neg ?_
  | refine w_add ?_ | refine w_sub ?_ | refine w_lt ?_ | refine w_le ?_ | refine w_gt ?_ | refine w_ge ?_ | refine w_eqI ?_ | refine w_neI ?_)
local macro_rules | `(tactic| walk_at "sv") => `(tactic| ((with_reducible refine' w_var ?hh ?_); (case hh => exact rfl)))
local macro_rules | `(tactic| walk_at "st") => `(tactic| first | walk_at "s1" | walk_at "sv")
local macro_rules | `(tactic| walk_at "go") => `(tactic| repeat' walk_at "st")
local macro_rules | `(tactic| walk_at "s1x") => `(tactic| with_reducible first
  | refine w_seq ?_ | refine w_asg ?_ | refine w_drop ?_ | refine w_ret ?_ | refine w_retN ?_ | refine w_next ?_ | refine w_c ?_ | refine w_op ?_ | refine w_un ?_
  | refine w_fld ?_ | refine w_sfld ?_ | refine w_meth ?_ | refine w_call ?_ | refine w_cons ?_ | refine w_nil ?_ | refine w_cb ?_ | refine w_gname ?_ | refine w_lst ?_ | refine w_tup ?_
  | refine w_sl ?_ | refine w_nopart ?_ | refine w_part ?_ | refine w_parti ?_ | refine w_bm ?_ | refine w_test ?_ | refine w_tB ?_ | refine w_not ?_ | refine w_and_t ?_ | refine w_or_t ?_ | refine w_andV ?_ | refine w_orV ?_
  | refine w_for ?_ | refine w_ilist ?_ | refine w_rng1 ?_ | refine w_rev ?_ | refine w_istr ?_ | refine w_istr2 ?_ | refine w_zip ?_ | refine w_enum ?_ | refine w_lc ?_ | refine w_break ?_ | refine w_cont ?_ | refine w_dnew ?_
  | refine w_make ?_ | refine w_bl ?_ | refine w_isN ?_ | refine w_notN ?_ | refine w_neg ?_
  | refine w_add ?_ | refine w_sub ?_ | refine w_lt ?_ | refine w_le ?_ | refine w_gt ?_ | refine w_ge ?_ | refine w_eqI ?_ | refine w_neI ?_)
local macro_rules | `(tactic| walk_at "gx") => `(tactic| repeat' first | walk_at "s1x" | walk_at "sv")
section
variable {K : PySem.W.Frag} {mg : Str → Option Value} {a : Ad} {vs : List V} {H H0 : Hp} {Q : VK} {E : XK} {σ : L2.St}
theorem pput_len {β : Type} (l : List (Nat × β)) (k : Nat) (v : β) : (Dm.pput l k v).length ≤ l.length + 1 := by
  unfold Dm.pput
  split
  · simp
  · simp
theorem kd_len (l : List (Nat × Addr)) : (kd l).length = l.length := by simp [kd]
/-- one transaction into the dict -/
theorem dict_loop {te : TE} {i j : Nat} {t : Fm08.Txn} {hs bs D : Addr} {over : List (Nat × Fm08.Bytes)} {Dn : Ends} (P : L2.St → Prop) (hP : P σ) (hset : ∀ σ' v w, P σ' → P ((σ'.set i (some v)).set j (some w)))
    (hvi : ∀ σ' v w, P σ' → ((σ'.set i (some v)).set j (some w))[i]? = some (some v)) (hvj : ∀ σ' v w, P σ' → ((σ'.set i (some v)).set j (some w))[j]? = some (some w))
    (hh : LB H hs (t.map (·.1))) (hb : LBs H bs (t.map (·.2))) (hD : NewAt H D over) (so : Dm.Sorted over) (hz : over.length + t.length ≤ 1000000)
    (hte : ∀ σ' H' R, P σ' → Keep [D] H H' → R (V.ref D) H' → te σ' H' R)
    (hd : ∀ σ' H', P σ' → Keep [D] H H' → NewAt H' D (Fm08.putAll over t) → Dn.nx σ' H') :
    forB (Itz K hs bs) (gTup K 2 (gCons (gName i) (gCons (gName j) gNil))) (sDPut te (tVar i) (tVar j)) Dn σ H := by
  obtain ⟨as, hba, hal⟩ := hb
  obtain ⟨kvs0, m0, e0, a0, p0⟩ := hD
  have hlen : as.length = t.length := by simpa using hal.len
  have ne1 : hs ≠ D := ne_of hh e0 (by intro e; cases e)
  have ne2 : bs ≠ D := ne_of hba e0 (by intro e; cases e)
  refine w_loop (walk_zip (n := t.length) (by simp [il, hlen])) (fun q σ' H' => P σ' ∧ Keep [D] H H' ∧ ∃ kvs m, H' D = some (.dK (kd kvs)) ∧ Al (KB H') kvs m ∧ m.Perm (Fm08.putAll over (t.take q)) ∧ kvs.length ≤ over.length + q)
    ⟨hP, Keep.refl _ _, kvs0, m0, e0, a0, by simpa [Fm08.putAll] using p0, by rw [a0.len, p0.length_eq]; omega⟩ (fun q σ' H' _ h => ⟨(hh.keep h.2.1 ne1).sq, .of (h.2.1 _ _ hba (by simpa using ne2))⟩) ?_ ?_
  · rintro q x σ' H' H'' hi ⟨hp, k, kvs, m, eD, aD, pD, lD⟩ ⟨T', x1, x2, rfl, nT, rfl, e1, e2⟩
    obtain ⟨z, hz⟩ : ∃ z, t[q]? = some z := ⟨t[q], by simp [hi]⟩
    dsimp only at e1 e2
    have e1' : x1 = V.int z.1 := by
      rw [il_get (show (t.map (·.1))[q]? = some z.1 by simp [hz])] at e1
      exact (Option.some.inj e1).symm
    obtain ⟨ba, hba2, hB⟩ := hal.get2 (show (t.map (·.2))[q]? = some z.2 by simp [hz])
    have e2' : x2 = V.ref ba := by
      rw [show (as.map V.ref)[q]? = some (V.ref ba) by simp [hba2]] at e2
      exact (Option.some.inj e2).symm
    subst e1' e2'
    have sT := same_new (o := .tup [V.int z.1, V.ref ba]) nT
    have neB : ba ≠ D := ne_of hB e0 (by intro e; cases e)
    refine w_gtup2 upd_same ?_
    have k2 := k.trans (Keep.of (F := [D]) sT)
    have eD2 := sT _ _ eD
    have aD2 : Al (KB (upd H' T' (.tup [V.int z.1, V.ref ba]))) kvs m := aD.imp fun _ _ k => ⟨k.1, k.2.mono sT⟩
    generalize upd H' T' (HO.tup [V.int z.1, V.ref ba]) = H3 at *
    refine ⟨V.ref ba, hvj _ _ _ hp, hte _ _ _ (hset _ _ _ hp) k2 ⟨V.int z.1, hvi _ _ _ hp, D, _, rfl, DPut.k (k := Sum.inl (z.1 : Int)) eD2 (by rw [kd_len]; show _ < 16777216; omega), ?_⟩⟩
    have ku : Keep [D] H3 (upd H3 D (.dK (putK (kd kvs) (Sum.inl (z.1 : Int)) (V.ref ba)))) := keep_upd
    have nd : ∀ {p : Addr} {b : List Nat}, LB H3 p b → p ≠ D := fun h => ne_of h eD2 (by intro e; cases e)
    refine ⟨hset _ _ _ hp, k2.trans ku, Dm.pput kvs z.1 ba, Dm.pput m z.1 z.2, by rw [upd_same, kd_put], ?_, ?_, ?_⟩
    · exact Al.pput (aD2.imp fun _ _ h => ⟨h.1, h.2.keep ku (nd h.2)⟩) ((hB.keep k2 neB).keep ku (nd (hB.keep k2 neB)))
    · rw [List.take_add_one, hz]
      unfold Fm08.putAll
      rw [List.foldl_append]
      exact Dm.pput_perm pD (Dm.putAll_sorted so)
    · have := pput_len kvs z.1 ba
      omega
  · rintro σ' H' ⟨hp, k, kvs, m, eD, aD, pD, lD⟩
    rw [List.take_length] at pD
    exact hd σ' H' hp k ⟨kvs, m, eD, aD, pD⟩
theorem ln_known_behind (h : sp_known_behind K a vs H Q E) : vs.length = 2 := by obtain ⟨k, x, n, u, t, rfl, _⟩ := h; rfl
theorem pure_known_behind (T : Tx K mg a) (h : sp_known_behind K a vs H Q E) : t_known_behind K a { nx := fun _ H' => Q .non H', rt := Q } (L2.start N_known_behind vs) H := by
  obtain ⟨k, x, n, u, t, rfl, hk, ok, ⟨hs, bs, oT, hh, hb⟩, tl, tn, q⟩ := h
  obtain ⟨hd, nw, S, nm, pl, oK, oH, hS, hN⟩ := hk.ex
  have ol := over_len ok
  have sh := (Dm.shape_iff _ _).mp ok.sh
  unfold t_known_behind
  walk_at "go"
  refine g_Transaction_homes T oT ?_
  walk_at "go"
  refine w_len hh.sq ?_
  rw [il_len, List.length_map]
  walk_at "go"
  refine g_Known_head T oK ?_
  walk_at "go"
  refine mk_Known oH fun X nw1 H1 s1 nX nN oX en => ?_
  walk_at "go"
  refine g_Known_number T (oK.mono s1) ?_
  walk_at "go"
  refine st_Known_number T oX fun H2 oX2 k2 => ?_
  have s2 : Same H H2 := Keep.fresh s1 k2 (by simpa using nX)
  walk_at "go"
  refine g_Known_place T (oK.mono s2) ?_
  walk_at "go"
  refine g_Known_head T (oK.mono s2) (g_Head_shape T (oH.mono s2) (g_Shape_place_count T (hS.mono s2) ?_))
  rw [show (u.place : Int) + ((t.length : Int) + 1) = ((u.place + t.length + 1 : Nat) : Int) by omega]
  refine w_mod (by omega) ?_
  walk_at "go"
  refine st_Known_place T oX2 fun H3 oX3 k3 => ?_
  have s3 : Same H H3 := Keep.fresh s2 k3 (by simpa using nX)
  walk_at "go"
  refine g_Known_taken T (oK.mono s3) ?_
  walk_at "go"
  refine st_Known_taken T oX3 fun H4 oX4 k4 => ?_
  have s4 : Same H H4 := Keep.fresh s3 k4 (by simpa using nX)
  walk_at "go"
  refine g_Known_newest T (oK.mono s4) ?_
  walk_at "go"
  obtain ⟨kvs, m, e1, e2, e3⟩ := hN
  refine ⟨nw, _, rfl, .inl (s4 _ _ e1), fun D nD => ?_⟩
  walk_at "go"
  have sD := same_new (o := .dK (kd kvs)) nD
  refine st_Known_newest T (oX4.mono sD) fun H5 oX5 k5 => ?_
  have nDX : D ≠ X := by
    obtain ⟨dx, e⟩ := oX4
    exact (ne_of_none e nD).symm
  have s5 : Same H H5 := Keep.fresh (s4.trans sD) k5 (by simpa using nX)
  have hD : NewAt H5 D u.over := ⟨kvs, m, k5 _ _ upd_same (by simpa using nDX), e2.imp fun _ _ h => ⟨h.1, h.2.mono s5⟩, e3⟩
  have D0 : H D = none := s4.free nD
  walk_at "go"
  refine g_Transaction_homes T (oT.mono s5) ?_
  walk_at "go"
  refine g_Transaction_blocks T (oT.mono s5) ?_
  walk_at "go"
  obtain ⟨bas, hbe, hbl⟩ := hb
  refine w_zip2 (hh.mono s5).sq (.of (s5 _ _ hbe)) ?_
  have hb : LBs H bs (t.map (·.2)) := ⟨bas, hbe, hbl⟩
  obtain ⟨dX, oX6⟩ := oX5
  have nXD : X ≠ D := nDX.symm
  refine dict_loop (fun σ' => ∃ v w, σ' = [some (.ref k), some (.ref x), some (.int ((t.length : Int) + 1)), some (.ref X), v, w]) ⟨_, _, rfl⟩ (fun σ' v w h => by obtain ⟨_, _, rfl⟩ := h; exact ⟨_, _, rfl⟩) (fun σ' v w h => by obtain ⟨_, _, rfl⟩ := h; rfl) (fun σ' v w h => by obtain ⟨_, _, rfl⟩ := h; rfl)
    (hh.mono s5) (hb.mono s5) hD ok.so (by omega) (fun σ' H' R h kp r => ?_) (fun σ' H' h kp hN' => ?_)
  · obtain ⟨_, _, rfl⟩ := h
    walk_at "go"
    exact g_Known_newest T ⟨dX, kp _ _ oX6 (by simpa using nXD)⟩ r
  · obtain ⟨_, _, rfl⟩ := h
    walk_at "go"
    have s6 : Same H H' := Keep.fresh s5 kp (by simpa using D0)
    refine q H' X s6 nX ⟨hd, D, S, nm, pl, ⟨dX, ?_⟩, oH.mono s6, hS.mono s6, hN'⟩
    have := kp _ _ oX6 (by simpa using nXD)
    rw [this]
    rfl
theorem ln_mend_operation (h : sp_mend_operation K a vs H Q E) : vs.length = 1 := by obtain ⟨B, m, rfl, _⟩ := h; rfl
theorem found_good (m : List Fm08.Bytes) (j : Nat) : ∀ f s p t, t ∈ (Fm08.found m j f s p).1 → Fm08.txnOk (Fm08.homes m.length j) t = true
  | 0, _, _, _, h => by simp [Fm08.found] at h
  | f + 1, s, p, t, h => by
    rw [Fm08.found] at h
    cases e : Fm08.txnAt m j s p with
    | none => rw [e] at h; simp at h
    | some t' =>
      rw [e] at h
      rcases List.mem_cons.mp h with z | z
      · rw [z]; exact Dm.txnAt_good e
      · exact found_good m j f _ _ t z
theorem found_place (m : List Fm08.Bytes) (j : Nat) (hj : 0 < j) : ∀ f s p, p < j → (Fm08.found m j f s p).2 < j
  | 0, _, _, h => h
  | f + 1, s, p, h => by
    rw [Fm08.found]
    cases Fm08.txnAt m j s p with
    | none => exact h
    | some t => exact found_place m j hj f _ _ (Nat.mod_lt _ hj)
theorem fold_put_sorted : ∀ (ts : List Fm08.Txn) (l : List (Nat × Fm08.Bytes)), Dm.Sorted l → Dm.Sorted (ts.foldl Fm08.putAll l)
  | [], _, h => h
  | t :: ts, l, h => fold_put_sorted ts _ (Dm.putAll_sorted h)
theorem fold_put_ok {n : Nat} : ∀ (ts : List Fm08.Txn) (l : List (Nat × Fm08.Bytes)), (∀ t ∈ ts, Fm08.txnOk n t = true) → (∀ x ∈ l, x.1 < n ∧ Fm08.isBlock x.2 = true) → ∀ x ∈ ts.foldl Fm08.putAll l, x.1 < n ∧ Fm08.isBlock x.2 = true
  | [], _, _, h => h
  | t :: ts, l, ht, h => fold_put_ok ts _ (fun t' m => ht t' (by simp [m])) fun x hx => by
    rcases Dm.putAll_mem hx with e | e
    · exact ((Dm.txnOk_iff _ _).mp (ht t (by simp))).2.2.1 x e
    · exact h x e
theorem pure_mend_operation (T : Tx K mg a) (h : sp_mend_operation K a vs H Q E) : t_mend_operation K a { nx := fun _ H' => Q .non H', rt := Q } (L2.start N_mend_operation vs) H := by
  obtain ⟨B, m, rfl, hB, mk, q⟩ := h
  unfold t_mend_operation
  walk_at "go"
  refine ⟨B, m, rfl, hB, mk, fun e H1 s1 => ?_, fun h e H1 F s1 hF => ?_⟩
  · walk_at "go"
    rw [non_non]
    refine w_tt ?_
    walk_at "go"
    refine ⟨-6, rfl, fun H2 p s2 np hp => ?_⟩
    refine q H2 p (s1.trans s2) (s1.free np) ?_
    unfold planM
    rw [e]
    obtain ⟨l, h1, h2, h3⟩ := hp m.length
    exact ⟨l, h1, s1.free h2, h3⟩
  have ok := Dm.best_ok e
  have sh := (Dm.shape_iff _ _).mp ok.sh
  have hn := ok.n
  unfold planM at q
  rw [e] at q
  dsimp only at q
  have fl := found_len m h.j h.j h.next h.place
  have fg := found_good m h.j h.j h.next h.place
  have fp := found_place m h.j (by omega) h.j h.next h.place ok.pl
  generalize Fm08.found m h.j h.j h.next h.place = r at *
  obtain ⟨hd, tl, oF, ⟨S, oH, hS⟩, as, hL, hal⟩ := hF
  have asl : as.length = r.1.length := hal.len
  walk_at "go"
  rw [ref_non]
  refine w_ff ?_
  walk_at "go"
  refine g_Found_head T oF (g_Head_shape T oH ?_)
  walk_at "go"
  intro D nD
  have sD := same_new (o := .dK []) nD
  have D0 : H D = none := s1.free nD
  walk_at "go"
  refine g_Found_transactions T (oF.mono sD) ?_
  walk_at "go"
  refine w_ilist2 (.of (sD _ _ hL)) ?_
  refine w_loop walk_list (fun i σ' H' => Same H1 H' ∧ (∃ v4 v5 v6, σ' = [some (.ref B), some (.ref F), some (.ref S), some (.ref D), v4, v5, v6, none, none, none]) ∧ NewAt H' D ((r.1.take i).foldl Fm08.putAll []))
    ⟨sD, ⟨_, _, _, rfl⟩, [], [], upd_same, trivial, List.Perm.refl _⟩ (fun i σ' H' _ h => .of (h.1 _ _ hL)) ?_ ?_
  · rintro i x σ' H' H'' hi ⟨s, ⟨v4, v5, v6, rfl⟩, hN⟩ ⟨rfl, hx⟩
    rw [List.length_map] at hi
    have hi2 : i < r.1.length := by rw [← asl]; exact hi
    obtain ⟨t, ht⟩ : ∃ t, r.1[i]? = some t := ⟨r.1[i], by rw [List.getElem?_eq_getElem hi2]⟩
    obtain ⟨y, hy, hY⟩ := hal.get2 ht
    have ex : x = V.ref y := by simpa [hy] using hx.symm
    subst ex
    have gt := (Dm.txnOk_iff _ _).mp (fg t (List.mem_of_getElem? ht))
    obtain ⟨hs, bs, oT, hh, hb⟩ := hY.mono s
    have fok := fold_put_ok (n := Fm08.homes m.length h.j) (r.1.take i) [] (fun t' q => fg t' (List.mem_of_mem_take q)) (by simp)
    have fso := fold_put_sorted (r.1.take i) [] (by simp [Dm.Sorted])
    have fln := Dm.sorted_len fso (fun z hz => (fok z hz).1)
    walk_at "go"
    refine g_Transaction_homes T oT ?_
    walk_at "go"
    refine g_Transaction_blocks T oT ?_
    walk_at "go"
    obtain ⟨bas, hbe, hbl⟩ := hb
    refine w_zip2 hh.sq (.of hbe) ?_
    have hb : LBs H'' bs (t.map (·.2)) := ⟨bas, hbe, hbl⟩
    refine dict_loop (fun σ' => ∃ v w, σ' = [some (.ref B), some (.ref F), some (.ref S), some (.ref D), some (.ref y), v, w, none, none, none]) ⟨_, _, rfl⟩ (fun σ' v w h => by obtain ⟨_, _, rfl⟩ := h; exact ⟨_, _, rfl⟩) (fun σ' v w h => by obtain ⟨_, _, rfl⟩ := h; rfl) (fun σ' v w h => by obtain ⟨_, _, rfl⟩ := h; rfl)
      hh hb hN fso (by unfold Fm08.homes at fln; omega) (fun σ' H' R h kp r => ?_) (fun σ' H' h kp hN' => ?_)
    · obtain ⟨_, _, rfl⟩ := h
      walk_at "go"
      exact r
    · obtain ⟨_, _, rfl⟩ := h
      refine ⟨Keep.fresh s kp (by simpa using nD), ⟨_, _, _, rfl⟩, ?_⟩
      rw [List.take_add_one, ht, List.foldl_append]
      exact hN'
  · rintro σ' H' ⟨s, ⟨v4, v5, v6, rfl⟩, hN⟩
    rw [List.length_map, asl, List.take_length] at hN
    have fok := fold_put_ok (n := Fm08.homes m.length h.j) r.1 [] fg (by simp)
    have fso := fold_put_sorted r.1 [] (by simp [Dm.Sorted])
    have fln := Dm.sorted_len fso (fun z hz => (fok z hz).1)
    walk_at "go"
    refine g_Found_head T (oF.mono s) (g_Head_number T (oH.mono s) ?_)
    walk_at "go"
    refine g_Found_transactions T (oF.mono s) ?_
    walk_at "go"
    refine w_len (.of (s _ _ hL)) ?_
    rw [List.length_map, asl]
    walk_at "go"
    refine g_Shape_place_count T (hS.mono s) ?_
    walk_at "go"
    refine g_Found_head T (oF.mono s) (g_Head_generation T (oH.mono s) ?_)
    walk_at "go"
    refine g_Found_place T (oF.mono s) ?_
    walk_at "go"
    refine mk_Head fun G H3 s3 nG oG => ?_
    rw [show (h.gen : Int) + 1 = ((h.gen + 1 : Nat) : Int) by omega, show (h.next : Int) + (r.1.length : Int) + (h.j : Int) = ((h.next + r.1.length + h.j : Nat) : Int) by omega] at oG
    have hG : HeadAt a H3 G ⟨h.gen + 1, h.n, h.j, h.next + r.1.length + h.j, r.2⟩ := ⟨S, oG, (hS.mono s).mono s3⟩
    walk_at "go"
    refine ⟨S, h.n, h.j, D, _, rfl, (hS.mono s).mono s3, hN.mono s3, fso, by unfold Fm08.homes at fln; omega, fun z hz => Dm.isBlock_ne (fok z hz).2, fun H4 A s4 nA aA => ?_⟩
    walk_at "go"
    refine ⟨G, _, rfl, hG.mono s4, fun H5 v s5 hv => ?_⟩
    walk_at "go"
    refine ⟨by show 3 ≤ sizeLine; decide, fun Z nZ => ?_⟩
    have sZ := same_new (o := .lst [V.non, v, V.non]) nZ
    walk_at "go"
    refine x_catA ((aA.mono s5).mono sZ) (l2 := [.barrier, .write ((h.gen + 1) % 2) (Fm08.Head.bytes ⟨h.gen + 1, h.n, h.j, h.next + r.1.length + h.j, r.2⟩), .barrier]) ⟨_, upd_same, rfl, hv.mono sZ, rfl, trivial⟩ (by unfold Fm08.homes at fln; simp [sizeLine]; omega) fun H7 C s7 nC aC => ?_
    have s8 := ((s4.trans s5).trans sZ).trans s7
    have s9 := s.trans (s3.trans s8)
    walk_at "go"
    refine g_Found_transactions T (oF.mono s9) ?_
    walk_at "go"
    refine w_len (.of (s9 _ _ hL)) ?_
    rw [List.length_map, asl]
    walk_at "go"
    obtain ⟨S', oG8, hS8⟩ := hG.mono s8
    refine mk_Known oG8 fun k2 nw2 H8 s10 nk nn ok2 en => ?_
    walk_at "go"
    refine mk_Operation fun X H9 s11 nX oX => ?_
    have s12 := s1.trans (s9.trans s10)
    refine q H9 X (s12.trans s11) (s12.free nX) ⟨C, k2, oX, ((s1.trans (s.trans s3)).trans ((s4.trans s5).trans sZ)).free nC, (aC.mono s10).mono s11, ⟨G, nw2, S', _, _, ok2.mono s11, (oG8.mono s10).mono s11, ?_, [], [], s11 _ _ en, trivial, List.Perm.refl _⟩⟩
    rw [← hn]
    exact (hS8.mono s10).mono s11
end
end Dk
namespace Dk
open PySem PySem.Spec PyProof.Rows L2
local macro_rules | `(tactic| walk_at "s1") => `(tactic| with_reducible first
  | refine w_seq ?_ | refine w_asg ?_ | refine w_drop ?_ | refine w_ret ?_ | refine w_retN ?_ | refine w_next ?_ | refine w_if ?_ | refine w_c ?_ | refine w_op ?_ | refine w_un ?_
  | refine w_fld ?_ | refine w_sfld ?_ | refine w_meth ?_ | refine w_call ?_ | refine w_cons ?_ | refine w_nil ?_ | refine w_cb ?_ | refine w_gname ?_ | refine w_lst ?_ | refine w_tup ?_
  | refine w_sl ?_ | refine w_nopart ?_ | refine w_part ?_ | refine w_parti ?_ | refine w_bm ?_ | refine w_test ?_ | refine w_tB ?_ | refine w_not ?_ | refine w_and_t ?_ | refine w_or_t ?_ | refine w_andV ?_ | refine w_orV ?_
  | refine w_for ?_ | refine w_ilist ?_ | refine w_rng1 ?_ | refine w_rev ?_ | refine w_istr ?_ | refine w_istr2 ?_ | refine w_zip ?_ | refine w_enum ?_ | refine w_lc ?_ | refine w_break ?_ | refine w_cont ?_ | refine w_dnew ?_
  | refine w_make ?_ | refine w_bl ?_ | refine w_isN ?_ | refine w_notN ?_ | refine w_neg ?_
  | refine w_add ?_ | refine w_sub ?_ | refine w_lt ?_ | refine w_le ?_ | refine w_gt ?_ | refine w_ge ?_ | refine w_eqI ?_ | refine w_neI ?_)
local macro_rules | `(tactic| walk_at "sv") => `(tactic| ((with_reducible refine' w_var ?hh ?_); (case hh => exact rfl)))
local macro_rules | `(tactic| walk_at "st") => `(tactic| first | walk_at "s1" | walk_at "sv")
local macro_rules | `(tactic| walk_at "go") => `(tactic| repeat' walk_at "st")
local macro_rules | `(tactic| walk_at "s1x") => `(tactic| with_reducible first
  | refine w_seq ?_ | refine w_asg ?_ | refine w_drop ?_ | refine w_ret ?_ | refine w_retN ?_ | refine w_next ?_ | refine w_c ?_ | refine w_op ?_ | refine w_un ?_
  | refine w_fld ?_ | refine w_sfld ?_ | refine w_meth ?_ | refine w_call ?_ | refine w_cons ?_ | refine w_nil ?_ | refine w_cb ?_ | refine w_gname ?_ | refine w_lst ?_ | refine w_tup ?_
  | refine w_sl ?_ | refine w_nopart ?_ | refine w_part ?_ | refine w_parti ?_ | refine w_bm ?_ | refine w_test ?_ | refine w_tB ?_ | refine w_not ?_ | refine w_and_t ?_ | refine w_or_t ?_ | refine w_andV ?_ | refine w_orV ?_
  | refine w_for ?_ | refine w_ilist ?_ | refine w_rng1 ?_ | refine w_rev ?_ | refine w_istr ?_ | refine w_istr2 ?_ | refine w_zip ?_ | refine w_enum ?_ | refine w_lc ?_ | refine w_break ?_ | refine w_cont ?_ | refine w_dnew ?_
  | refine w_make ?_ | refine w_bl ?_ | refine w_isN ?_ | refine w_notN ?_ | refine w_neg ?_
  | refine w_add ?_ | refine w_sub ?_ | refine w_lt ?_ | refine w_le ?_ | refine w_gt ?_ | refine w_ge ?_ | refine w_eqI ?_ | refine w_neI ?_)
local macro_rules | `(tactic| walk_at "gx") => `(tactic| repeat' first | walk_at "s1x" | walk_at "sv")
section
variable {K : PySem.W.Frag} {mg : Str → Option Value} {a : Ad} {vs : List V} {H H0 : Hp} {Q : VK} {E : XK} {σ : L2.St}
theorem w_join {t : TS} {D : Ends} (R : L2.St → Hp → Prop) (rest : ∀ σ' H', R σ' H' → D.nx σ' H') (h : ∀ D' : Ends, D'.rt = D.rt → (∀ σ' H', R σ' H' → D'.nx σ' H') → t D' σ H) : t D σ H := h D rfl rest
/-- a comprehension whose items are lists of numbers -/
theorem w_compB {J : It} {te : TE} {G : Hp → Prop} {Y : Nat → Hp → V → Hp → Prop} {l : List (List Nat)} (w : Walk J l.length G Y) {i0 : Nat} {p : Addr} {Qd : Hp → Prop} (hn : l.length ≤ sizeLine) (np : H p = none) (s : ∀ H', Same H H' → G H') (nz : ∀ b ∈ l, b ≠ [])
    (hY : ∀ i x H' H'', Y i H' x H'' → H'' = H') (hs : ∀ i b x H' , l[i]? = some b → Same H H' → Y i H' x H' → ∀ R : VK, (∀ q H4, Same H' H4 → LB H4 q b → R (.ref q) H4) → te ((σ.set i0 none).set i0 (some x)) H' R)
    (hd : ∀ H', Same H H' → LBs H' p l → Qd H') : lcB J (gName i0) tYes te [i0] σ H p Qd := by
  refine lc_it w (fun i H' => Same H H' ∧ LBs H' p (l.take i)) ⟨same_new np, [], upd_same, by simp [Al]⟩ (fun i H' _ h => s H' h.1) ?_ (fun H' h => hd H' h.1 (by have := h.2; rw [List.take_length] at this; exact this))
  intro i x H' H'' hi ⟨h1, as, h2, h3⟩ hy
  have e := hY i x H' H'' hy
  subst e
  obtain ⟨c, hc⟩ : ∃ c, l[i]? = some c := ⟨l[i], by simp [hi]⟩
  refine ⟨?_, ?_⟩
  · show List.set ((σ.set i0 none).set i0 (some x)) i0 none = σ.set i0 none
    rw [List.set_set, List.set_set]
  · show te ((σ.set i0 none).set i0 (some x)) H'' fun y H4 => ∃ acc, H4 p = some (.lst acc) ∧ acc.length < sizeLine ∧ _
    refine hs i c x H'' hc h1 hy _ fun q H4 s4 hv => ?_
    have e4 := s4 _ _ h2
    have h4 := h3.sameB s4
    have k : Keep [p] H4 (upd H4 p (.lst (as.map V.ref ++ [V.ref q]))) := keep_upd
    have nt : ∀ b ∈ l.take i, b ≠ [] := fun c m => nz c (List.mem_of_mem_take m)
    refine ⟨as.map V.ref, e4, by rw [List.length_map, h3.len, List.length_take]; omega, fun b o eb => ?_, as ++ [q], by rw [upd_same]; simp, ?_⟩
    · rw [upd_ne (ne_of_none eb np)]
      exact s4 _ _ (h1 _ _ eb)
    · rw [List.take_add_one, hc]
      exact (Al.keepB k e4 nt h4).snoc (hv.keep k (ne_ref hv (nz c (List.mem_of_getElem? hc)) e4))
theorem blk_of {data : List Nat} {n k : Nat} (hl : data.length = 512 * n) (hx : ∀ x ∈ data, x < 256) (hk : k < n) : Fm08.isBlock ((data.drop (512 * k)).take 512) = true := by
  rw [Dm.isBlock_iff]
  refine ⟨?_, fun x h => hx x (List.mem_of_mem_drop (List.mem_of_mem_take h))⟩
  rw [List.length_take, List.length_drop]
  omega
theorem txnOf_len (l d : List Nat) : (txnOf l d).length = l.length := by simp [txnOf]
theorem txnOf_fst (l d : List Nat) : (txnOf l d).map (·.1) = l := by
  unfold txnOf
  rw [List.map_map]
  exact List.zipIdx_map_fst 0 l
theorem txnOf_snd (l d : List Nat) : (txnOf l d).map (·.2) = (List.range l.length).map fun k => (d.drop (512 * k)).take 512 := by
  refine List.ext_getElem (by simp [txnOf]) fun i h1 h2 => ?_
  simp [txnOf, Fm08.SIZE]
theorem txnOf_ok {l d : List Nat} {n j : Nat} (hl : d.length = 512 * l.length) (hx : ∀ x ∈ d, x < 256) (hj : j + 3 ≤ n) : Fm08.txnOk (Fm08.homes n j) (txnOf l d) = Dm.homesOk l ((n : Int) - j - 2) := by
  unfold Fm08.txnOk Dm.homesOk
  rw [Dm.apart_iff, txnOf_fst, txnOf_len]
  have e : ((txnOf l d).all fun (x : Nat × Fm08.Bytes) => decide (x.1 < Fm08.homes n j) && Fm08.isBlock x.2) = l.all fun (x : Nat) => decide ((x : Int) < (n : Int) - j - 2) := by
    have e2 : l.all (fun (x : Nat) => decide ((x : Int) < (n : Int) - j - 2)) = (txnOf l d).all (fun x => decide ((x.1 : Int) < (n : Int) - j - 2)) := by
      conv => lhs; rw [← txnOf_fst l d]
      rw [List.all_map]; rfl
    rw [e2]
    refine Dm.all_eq fun x hx2 => ?_
    have hb : Fm08.isBlock x.2 = true := by
      have : x.2 ∈ (txnOf l d).map (·.2) := List.mem_map.mpr ⟨x, hx2, rfl⟩
      rw [txnOf_snd] at this
      obtain ⟨k, hk, e⟩ := List.mem_map.mp this
      rw [← e]
      exact blk_of hl hx (List.mem_range.mp hk)
    rw [hb, Bool.and_true]
    exact decide_eq_decide.mpr (by unfold Fm08.homes; omega)
  rw [e, Bool.and_comm (List.all _ _)]
  rfl
theorem pieces_ne (s : Nat) (t : Fm08.Txn) : ∀ b ∈ Fm08.pieces s t, b ≠ [] := by
  intro b hb e
  have h8 : (Fm08.little 8 s).length = 8 := Dm.little_len 8 s
  rcases List.mem_cons.mp hb with z | z
  · rw [e] at z
    have := congrArg List.length z
    unfold Fm08.descriptor at this
    rw [List.length_append, h8] at this
    simp at this
  · obtain ⟨x, _, ex⟩ := List.mem_map.mp z
    rw [e] at ex
    have := congrArg List.length ex
    rw [List.length_append, h8] at this
    simp at this
theorem settling_ne {n : Nat} {u : Fm08.Up} (ok : UpOk n u) : ∀ c ∈ (Fm08.settling n u).1, ∀ b x, c = .write b x → x ≠ [] := by
  intro c hc b x e
  unfold Fm08.settling at hc
  split at hc
  · simp at hc
  · subst e
    rcases List.mem_append.mp hc with z | z
    · simp at z
    rcases List.mem_append.mp z with z | z
    · obtain ⟨y, hy, ey⟩ := List.mem_map.mp z
      cases ey
      exact over_ne ok y hy
    · have hl := Dm.head_len ⟨u.gen + 1, n, u.j, u.next, u.place⟩
      intro e0
      have e3 : x = Fm08.Head.bytes ⟨u.gen + 1, n, u.j, u.next, u.place⟩ := by
        simp at z
        exact z.2
      rw [← e3, e0] at hl
      simp at hl
theorem settling_ok {n : Nat} {u : Fm08.Up} (ok : UpOk n u) : UpOk n (Fm08.settling n u).2 ∧ (Fm08.settling n u).2.j = u.j := by
  unfold Fm08.settling
  split
  · exact ⟨ok, rfl⟩
  · exact ⟨⟨ok.sh, ok.pl, Nat.zero_le _, by simp [Dm.Sorted], by simp⟩, rfl⟩
theorem settling_len {n : Nat} {u : Fm08.Up} (ok : UpOk n u) : (Fm08.settling n u).1.length ≤ 6000 := by
  have := over_len ok
  unfold Fm08.settling
  split
  · simp
  · simp; omega
theorem KnownAt.keepL {H' : Hp} {L p : Addr} {xs : List V} {n : Nat} {u : Fm08.Up} (k : Keep [L] H H') (eL : H L = some (.lst xs)) (hx : ∀ i, V.int i ∉ xs) (ne : ∀ y ∈ u.over, y.2 ≠ []) (h : KnownAt a H p n u) : KnownAt a H' p n u := by
  obtain ⟨hd, nw, S, nm, pl, ⟨dK, oK⟩, ⟨dH, oH⟩, ⟨dS, oS⟩, kvs, mm, z1, z2, z3⟩ := h.ex
  have nk : ∀ {p : Addr} {o : HO}, H p = some o → (∀ xs, o ≠ .lst xs) → H' p = some o := fun e n => k _ _ e (by simpa using ne_of e eL (n xs))
  refine ⟨hd, nw, S, nm, pl, ⟨dK, nk oK (by intro xs e; cases e)⟩, ⟨dH, nk oH (by intro xs e; cases e)⟩, ⟨dS, nk oS (by intro xs e; cases e)⟩, kvs, mm, nk z1 (by intro xs e; cases e), ?_, z3⟩
  have hmm : ∀ y ∈ mm, y.2 ≠ [] := fun y hy => ne y (z3.mem_iff.mp hy)
  clear z1 z3
  induction kvs generalizing mm with
  | nil => cases mm with
    | nil => trivial
    | cons y mm => exact z2.elim
  | cons z kvs ih => cases mm with
    | nil => exact z2.elim
    | cons y mm =>
      refine ⟨⟨z2.1.1, z2.1.2.keep k (ne_of z2.1.2 eL fun e => ?_)⟩, ih mm z2.2 (fun w hw => hmm w (by simp [hw]))⟩
      have yn := hmm y (by simp)
      cases ey : y.2 with
      | nil => exact yn ey
      | cons w r =>
        rw [ey] at e
        exact hx (w : Int) (by rw [← (HO.lst.inj e : il (w :: r) = xs)]; simp [il])
theorem chunks_len (d : List Nat) (n : Nat) : (chunks d n).length = n := by simp [chunks]
theorem range3 {m n : Nat} (h : m = 512 * n) (b : n ≤ 5000) : RgC 0 (m : Int) 512 n := by
  have e : Builtin.Range.rangeSize 0 (m : Int) 512 = n := by
    unfold Builtin.Range.rangeSize
    rw [if_pos (by decide)]
    split <;> omega
  refine ⟨by decide, by decide, ?_, e⟩
  unfold Builtin.Range.small
  rw [e]
  have f : ∀ i : Int, -1000 ≤ i → i ≤ 10000000 → Builtin.Range.rangeFitsLong i = true := fun i h1 h2 => by
    unfold Builtin.Range.rangeFitsLong
    rw [Bool.and_eq_true]
    exact ⟨decide_eq_true (by omega), decide_eq_true (by omega)⟩
  rw [f 0 (by omega) (by omega), f _ (by omega) (by omega : (m : Int) ≤ 10000000), f 512 (by omega) (by omega), f n (by omega) (by omega), if_pos (by decide), f _ (by omega) (by omega : (m : Int) + (512 - 1) ≤ 10000000), Bool.or_true]
  rfl
theorem w_rng3 {ta : TA} {R : It → Hp → Prop} (h : ta σ H fun vs H1 => ∃ (i j c : Int) (n : Nat), vs = [.int i, .int j, .int c] ∧ RgC i j c n ∧ R (Itc i c n) H1) : iRng3 ta σ H R := h
theorem ln_split_blocks (h : sp_split_blocks K a vs H Q E) : vs.length = 1 := by obtain ⟨p, d, n, rfl, _⟩ := h; rfl
theorem pure_split_blocks (T : Tx K mg a) (h : sp_split_blocks K a vs H Q E) : t_split_blocks K a { nx := fun _ H' => Q .non H', rt := Q } (L2.start N_split_blocks vs) H := by
  obtain ⟨p, d, n, rfl, hd, dl, hn, q⟩ := h
  unfold t_split_blocks
  walk_at "go"
  refine w_rng3 ?_
  walk_at "go"
  refine w_len hd.sq ?_
  rw [il_len]
  walk_at "go"
  refine ⟨0, (d.length : Int), 512, n, rfl, range3 dl hn, ?_⟩
  intro B nB
  have wl := walk_rangeC (lo := 0) (c := 512) (n := (chunks d n).length)
  rw [chunks_len] at wl
  have wl2 : Walk (Itc 0 512 n) (chunks d n).length (fun _ => True) (YFn fun i => .int (0 + (i : Nat) * 512)) := by rw [chunks_len]; exact wl
  refine w_compB (l := chunks d n) wl2 (by rw [chunks_len]; simp [sizeLine]; omega) nB (fun _ _ => trivial) (fun b hb => ?_) (fun i x H' H'' y => y.1) ?_ ?_
  · obtain ⟨i, hi, e⟩ := List.mem_map.mp hb
    have hi := List.mem_range.mp hi
    rw [← e]
    intro z
    have := congrArg List.length z
    rw [List.length_take, List.length_drop] at this
    simp at this
    omega
  · rintro i b x H' hb s ⟨_, rfl⟩ R kR
    have hi : i < n := by
      have := (List.getElem?_eq_some_iff.mp hb).1
      rwa [chunks_len] at this
    have eb : b = (d.drop (512 * i)).take 512 := by simpa [chunks, hi] using hb.symm
    subst eb
    walk_at "go"
    refine x_slice (hd.mono s).sq (c := (d.drop (512 * i)).take 512) (by
      rw [show (0 : Int) + (i : Nat) * 512 = ((512 * i : Nat) : Int) by omega, show ((512 * i : Nat) : Int) + 512 = ((512 * i + 512 : Nat) : Int) by omega, cut_nat, il_drop, il_take, Nat.add_sub_cancel_left]) fun H1 r s1 nr br => kR r H1 s1 br
  · intro H1 s1 hB
    exact q H1 B s1 nB hB
theorem ln_commit_operation (h : sp_commit_operation K a vs H Q E) : vs.length = 3 := by obtain ⟨k, hs, ds, n, u, l, d, rfl, _⟩ := h; rfl
theorem pure_commit_operation (T : Tx K mg a) (h : sp_commit_operation K a vs H Q E) : t_commit_operation K a { nx := fun _ H' => Q .non H', rt := Q } (L2.start N_commit_operation vs) H := by
  obtain ⟨k, hs, ds, n, u, l, d, rfl, hk, ok, hh, hd, ll, dl, dx, q⟩ := h
  obtain ⟨hdA, nw, S, nm, pl, oK, oH, hS, hN⟩ := hk.ex
  have sh := (Dm.shape_iff _ _).mp ok.sh
  have eok := txnOf_ok (n := n) (j := u.j) dl dx (by omega)
  have tlen := txnOf_len l d
  unfold planC at q
  rw [eok, tlen] at q
  unfold t_commit_operation
  walk_at "go"
  refine g_Known_head T oK (g_Head_shape T oH ?_)
  walk_at "go"
  refine g_Shape_home_count T hS ?_
  walk_at "go"
  refine ⟨hs, l, _, rfl, hh.sq, ll, ?_⟩
  walk_at "go"
  refine w_bool (fun c1 => ?_) (fun c1 => ?_)
  · have c1' : Dm.homesOk l ((n : Int) - u.j - 2) = false := by simpa using c1
    rw [if_pos c1'] at q
    refine w_tt ?_
    walk_at "go"
    exact ⟨-2, rfl, fun H2 p s2 np hp => q H2 p s2 np (hp n)⟩
  have c1' : Dm.homesOk l ((n : Int) - u.j - 2) = true := by simpa using c1
  have l30 := Dm.homesOk_len c1'
  rw [if_neg (by rw [c1']; decide)] at q
  walk_at "go"
  refine w_len hd.sq ?_
  rw [il_len]
  walk_at "go"
  refine w_len hh.sq ?_
  rw [il_len]
  walk_at "go"
  refine w_mulL (by decide) ?_
  walk_at "go"
  refine w_ndec (fun c2 => absurd (by omega) c2) (fun c2 => ?_)
  walk_at "go"
  refine w_len hh.sq ?_
  rw [il_len]
  walk_at "go"
  refine g_Shape_place_count T hS ?_
  walk_at "go"
  refine w_dec (fun c3 => ?_) (fun c3 => ?_)
  · rw [if_pos (by omega)] at q
    walk_at "go"
    exact ⟨-5, rfl, fun H2 p s2 np hp => q H2 p s2 np (hp n)⟩
  rw [if_neg (by omega)] at q
  walk_at "go"
  refine ⟨ds, d, l.length, rfl, hd, dl, ll, ?_⟩
  intro H1 B s1 nB hB
  rw [show chunks d l.length = (txnOf l d).map (·.2) from (txnOf_snd l d).symm] at hB
  walk_at "go"
  refine mk_Transaction fun X H2 s2 nX oX => ?_
  have hX : TxnAt a H2 X (txnOf l d) := ⟨hs, B, oX, by rw [txnOf_fst]; exact (hh.mono s1).mono s2, hB.mono s2⟩
  walk_at "go"
  refine ⟨by decide, fun L nL => ?_⟩
  have sL := same_new (o := .lst []) nL
  have s3 := (s1.trans s2).trans sL
  have L0 : H L = none := (s1.trans s2).free nL
  have hX3 := hX.mono sL
  have hL3 : (upd H2 L (.lst [])) L = some (.lst []) := upd_same
  have nL2 : H2 L = none := nL
  generalize upd H2 L (HO.lst []) = H3 at *
  walk_at "gx"
  generalize ht : txnOf l d = t at *
  have tne : ∀ z ∈ t, z.2 ≠ [] := by
    intro z hz
    have h1 := (Dm.txnOk_iff _ _).mp (eok.trans c1')
    exact Dm.isBlock_ne (h1.2.2.1 z hz).2
  have tlong : ∀ z ∈ t, z.2.length ≤ 1000 := by
    intro z hz
    have h1 := (Dm.txnOk_iff _ _).mp (eok.trans c1')
    have := ((Dm.isBlock_iff _).mp (h1.2.2.1 z hz).2).1
    omega
  refine w_join (fun σ' H' => ∃ (v8 : Option V) (ah : Addr) (acts : List Fm08.Act), (∃ xs, σ' = [some (.ref k), some (.ref hs), some (.ref ds), some (.ref S), some (.ref X), some (.ref L), some (.ref ah), v8, none, xs]) ∧ Keep [L] H3 H' ∧ ActsAt H' L acts ∧
    (if u.j < u.used + l.length + 1 then Fm08.settling n u else ([], u)).1 = acts ∧ KnownAt a H' ah n (if u.j < u.used + l.length + 1 then Fm08.settling n u else ([], u)).2) ?_ ?_
  · rintro σ' H' ⟨v8, ah, acts, ⟨xs, rfl⟩, kL, hA, eA, hK⟩
    generalize hst : (if u.j < u.used + l.length + 1 then Fm08.settling n u else ([], u)) = st at *
    have sok : UpOk n st.2 ∧ st.2.j = u.j := by
      rw [← hst]; split
      · exact settling_ok ok
      · exact ⟨ok, rfl⟩
    have ane : ∀ c ∈ acts, ∀ b x, c = .write b x → x ≠ [] := by
      rw [← eA, ← hst]; split
      · exact settling_ne ok
      · simp
    have alen : acts.length ≤ 6000 := by
      rw [← eA, ← hst]; split
      · exact settling_len ok
      · simp
    have s4 : Same H H' := Keep.fresh s3 kL (by simpa using L0)
    have s23 : Same H2 H3 := sL
    have sX : TxnAt a H' X t := hX.mono (Keep.fresh s23 kL (by simpa using nL2))
    obtain ⟨hd2, nw2, S2, nm2, pl2, oK2, oH2, hS2, hN2⟩ := hK.ex
    walk_at "go"
    refine g_Known_number T oK2 ?_
    walk_at "go"
    refine ⟨st.2.next, X, t, rfl, sX, by omega, tlong, fun H5 P s5 nP hP => ?_⟩
    obtain ⟨ps, hP1, hP2⟩ := hP
    walk_at "go"
    refine w_enum2 (.of hP1) ?_
    have pl : (Fm08.pieces st.2.next t).length = t.length + 1 := by unfold Fm08.pieces; simp
    have psl : ps.length = t.length + 1 := by rw [hP2.len, pl]
    obtain ⟨A, eL, aA⟩ := hA
    have neL : P ≠ L := (ne_of_none eL nP).symm
    refine w_loop walk_enum (fun i σ' H' => Same H H' ∧ Keep [L] H5 H' ∧ (∃ v9 v10, σ' = [some (.ref k), some (.ref hs), some (.ref ds), some (.ref S), some (.ref X), some (.ref L), some (.ref ah), v8, v9, v10]) ∧
      ActsAt H' L (acts ++ ((Fm08.pieces st.2.next t).zipIdx.map fun (x : Fm08.Bytes × Nat) => Fm08.Act.write (Fm08.spot st.2.j st.2.place x.2) x.1).take i))
      ⟨s4.trans s5, Keep.refl _ _, ⟨_, _, rfl⟩, by rw [List.take_zero, List.append_nil]; exact ⟨A, s5 _ _ eL, aA.imp fun _ _ k => k.mono s5⟩⟩ (fun i σ' H' _ h => .of (h.2.1 _ _ hP1 (by simpa using neL))) ?_ ?_
    · rintro i x σ' H6 H7 hi ⟨s6, kk, ⟨v9, v10, rfl⟩, hA6⟩ ⟨T', x1, x2, rfl, nT, rfl, e1, e2⟩
      rw [List.length_map, psl] at hi
      have hi2 : i < (Fm08.pieces st.2.next t).length := by omega
      obtain ⟨b, hb⟩ : ∃ b, (Fm08.pieces st.2.next t)[i]? = some b := ⟨(Fm08.pieces st.2.next t)[i], by rw [List.getElem?_eq_getElem hi2]⟩
      obtain ⟨y, hy, hB⟩ := hP2.get2 hb
      dsimp only at e1 e2
      cases e1
      have e2' : x2 = V.ref y := by simpa [hy] using e2.symm
      subst e2'
      have sT := same_new (o := .tup [V.int (i : Int), V.ref y]) nT
      have bne : b ≠ [] := pieces_ne _ _ b (List.mem_of_getElem? hb)
      refine w_gtup2 upd_same ?_
      have eL5 := s5 _ _ eL
      obtain ⟨A6, e6, a6⟩ := hA6
      have yL : y ≠ L := fun e => by
        have h5 : LB H5 y b := hB
        rw [e] at h5
        have : il b = A := by
          have := h5.symm.trans eL5
          exact HO.lst.inj (Option.some.inj this)
        cases b with
        | nil => exact bne rfl
        | cons z r => exact act_no_int aA (z : Int) (by rw [← this]; simp [il])
      have hB6 : LB H6 y b := hB.keep kk yL
      have s7 := s6.trans sT
      walk_at "go"
      refine w_tyl (sT _ _ e6) ?_
      walk_at "go"
      obtain ⟨dS, oS⟩ := hS.mono s7
      refine m_Shape_block_of_place ⟨dS, oS⟩ ?_
      walk_at "go"
      have sA7 : Keep [L] H' (upd H6 T' (.tup [V.int (i : Int), V.ref y])) := ((Keep.of s5).trans kk).trans (Keep.of sT)
      obtain ⟨dK, oK2'⟩ := oK2
      refine g_Known_place T ⟨dK, sA7 _ _ oK2' (by simpa using ne_of oK2' eL (by intro e; cases e))⟩ ?_
      walk_at "go"
      rw [show (st.2.place : Int) + (i : Int) = ((st.2.place + i : Nat) : Int) by omega]
      refine ⟨S, n, u.j, st.2.place + i, rfl, ⟨dS, oS⟩, by omega, ?_⟩
      walk_at "go"
      refine ⟨by show 2 ≤ sizeLine; decide, fun Z nZ => ?_⟩
      have sZ := same_new (o := .tup [V.int ((2 + (st.2.place + i) % u.j : Nat) : Int), V.ref y]) nZ
      walk_at "go"
      have e8 := sZ _ _ (sT _ _ e6)
      refine x_appK e8 (by rw [a6.len, List.length_append, List.length_take]; show _ < 16777216; omega) fun H8 k8 h8 => ?_
      have s8 : Same H H8 := Keep.fresh (s7.trans sZ) k8 (by simpa using L0)
      have hw : ((Fm08.pieces st.2.next t).zipIdx.map fun (x : Fm08.Bytes × Nat) => Fm08.Act.write (Fm08.spot st.2.j st.2.place x.2) x.1)[i]? = some (.write (Fm08.spot st.2.j st.2.place i) b) := by
        rw [List.getElem?_map, List.getElem?_zipIdx, hb]; simp
      refine ⟨s8, ((kk.trans (Keep.of sT)).trans (Keep.of sZ)).trans k8, ⟨_, _, rfl⟩, A6 ++ [V.ref Z], by simpa using h8, ?_⟩
      rw [List.take_add_one, hw, ← List.append_assoc]
      have a8 : Al (ActAt (upd (upd H6 T' (.tup [V.int (i : Int), V.ref y])) Z (.tup [V.int ((2 + (st.2.place + i) % u.j : Nat) : Int), V.ref y]))) A6 _ := a6.imp fun _ _ k => (k.mono sT).mono sZ
      have nA : ∀ c ∈ (acts ++ ((Fm08.pieces st.2.next t).zipIdx.map fun (x : Fm08.Bytes × Nat) => Fm08.Act.write (Fm08.spot st.2.j st.2.place x.2) x.1).take i), ∀ b x, c = .write b x → x ≠ [] := by
        intro c hc b x e
        rcases List.mem_append.mp hc with z | z
        · exact ane c z b x e
        · obtain ⟨w, hw, ew⟩ := List.mem_map.mp (List.mem_of_mem_take z)
          rw [e] at ew
          cases ew
          have hm := (List.mem_zipIdx' hw).2
          exact pieces_ne _ _ _ (by rw [hm]; exact List.getElem_mem _)
      refine (Al.keepA k8 e8 (act_no_int a8) nA a8).snoc ?_
      have hz : ActAt (upd (upd H6 T' (.tup [V.int (i : Int), V.ref y])) Z (.tup [V.int ((2 + (st.2.place + i) % u.j : Nat) : Int), V.ref y])) (V.ref Z) (.write (Fm08.spot st.2.j st.2.place i) b) := by
        refine ⟨Z, rfl, y, ?_, (hB6.mono sT).mono sZ⟩
        rw [upd_same]
        unfold Fm08.spot
        rw [sok.2]
      exact hz.keep k8 e8 (act_no_int a8) (fun b' x' e => by cases e; exact bne)
    · rintro σ' H6 ⟨s6, kk, ⟨v9, v10, rfl⟩, hA6⟩
      rw [List.length_map, psl, List.take_of_length_le (by simp; omega)] at hA6
      have sx6 : Keep [L] H3 H6 := (kL.trans (Keep.of s5)).trans kk
      have s26 : Same H2 H6 := Keep.fresh s23 sx6 (by simpa using nL2)
      have k6 : Keep [L] H' H6 := (Keep.of s5).trans kk
      obtain ⟨dK, oK2'⟩ := oK2
      have hK6 : KnownAt a H6 ah n st.2 := KnownAt.keepL k6 eL (act_no_int aA) (over_ne sok.1) hK
      walk_at "go"
      refine g_Known_number T ⟨dK, k6 _ _ oK2' (by simpa using ne_of oK2' eL (by intro e; cases e))⟩ ?_
      walk_at "go"
      refine ⟨ah, X, n, st.2, t, rfl, hK6, sok.1, hX.mono s26, by omega, tne, fun H7 kb s7 nkb hkb => ?_⟩
      walk_at "go"
      refine mk_Operation fun O H8 s8 nO oO => ?_
      refine q H8 O ((s6.trans s7).trans s8) ((s6.trans s7).free nO) ?_
      rw [eA]
      exact ⟨L, kb, oO, L0, (hA6.mono s7).mono s8, hkb.mono s8⟩
  · intro D' hD rest
    walk_at "go"
    refine g_Known_taken T (oK.mono s3) ?_
    walk_at "go"
    refine w_len (hh.mono s3).sq ?_
    rw [il_len]
    walk_at "go"
    refine g_Shape_place_count T (hS.mono s3) ?_
    walk_at "go"
    refine w_dec (fun c4 => ?_) (fun c4 => ?_)
    · walk_at "go"
      refine ⟨k, n, u, rfl, hk.mono s3, ok, fun H4 O s4 nO hO => ?_⟩
      obtain ⟨lA, k2, oO, _, ⟨A, eA, aA⟩, hK⟩ := hO
      have eL := s4 _ _ hL3
      have sl := settling_len ok
      walk_at "go"
      refine w_tyl eL ?_
      walk_at "go"
      refine g_Operation_actions T oO ?_
      walk_at "go"
      refine w_ext eL eA (by rw [aA.len]; simp [sizeLine]; omega) ?_
      have ku : Keep [L] H4 (upd H4 L (.lst ([] ++ A))) := keep_upd
      have nol : ∀ i, V.int i ∉ ([] : List V) := by simp
      have sne := settling_ne ok
      obtain ⟨dO, oO'⟩ := oO
      have oO5 := ku _ _ oO' (by simpa using ne_of oO' eL (by intro e; cases e))
      walk_at "go"
      refine g_Operation_known T ⟨dO, oO5⟩ ?_
      walk_at "go"
      refine rest _ _ ⟨some (.ref O), k2, (Fm08.settling n u).1, ⟨none, rfl⟩, (Keep.of s4).trans ku, ⟨A, by rw [upd_same, List.nil_append], Al.keepA ku eL nol sne aA⟩, ?_, ?_⟩
      · rw [if_pos (by omega)]
      · rw [if_pos (by omega)]
        exact KnownAt.keepL ku eL nol (over_ne (settling_ok ok).1) hK
    · walk_at "go"
      refine rest _ _ ⟨none, k, [], ⟨none, rfl⟩, Keep.refl _ _, ⟨[], hL3, trivial⟩, ?_, ?_⟩
      · rw [if_neg (by omega)]
      · rw [if_neg (by omega)]
        exact hk.mono s3
end
end Dk
namespace Dk
open PySem PySem.Spec PyProof.Rows L2
local macro_rules | `(tactic| walk_at "s1") => `(tactic| with_reducible first
  | refine w_seq ?_ | refine w_asg ?_ | refine w_drop ?_ | refine w_ret ?_ | refine w_retN ?_ | refine w_next ?_ | refine w_if ?_ | refine w_c ?_ | refine w_op ?_ | refine w_un ?_
  | refine w_fld ?_ | refine w_sfld ?_ | refine w_meth ?_ | refine w_call ?_ | refine w_cons ?_ | refine w_nil ?_ | refine w_cb ?_ | refine w_gname ?_ | refine w_lst ?_ | refine w_tup ?_
  | refine w_sl ?_ | refine w_nopart ?_ | refine w_part ?_ | refine w_parti ?_ | refine w_bm ?_ | refine w_test ?_ | refine w_tB ?_ | refine w_not ?_ | refine w_and_t ?_ | refine w_or_t ?_ | refine w_andV ?_ | refine w_orV ?_
  | refine w_for ?_ | refine w_ilist ?_ | refine w_rng1 ?_ | refine w_rev ?_ | refine w_istr ?_ | refine w_istr2 ?_ | refine w_zip ?_ | refine w_enum ?_ | refine w_lc ?_ | refine w_break ?_ | refine w_cont ?_ | refine w_dnew ?_
  | refine w_make ?_ | refine w_bl ?_ | refine w_isN ?_ | refine w_notN ?_ | refine w_neg ?_
  | refine w_add ?_ | refine w_sub ?_ | refine w_lt ?_ | refine w_le ?_ | refine w_gt ?_ | refine w_ge ?_ | refine w_eqI ?_ | refine w_neI ?_)
local macro_rules | `(tactic| walk_at "sv") => `(tactic| ((with_reducible refine' w_var ?hh ?_); (case hh => exact rfl)))
local macro_rules | `(tactic| walk_at "st") => `(tactic| first | walk_at "s1" | walk_at "sv")
local macro_rules | `(tactic| walk_at "go") => `(tactic| repeat' walk_at "st")
local macro_rules | `(tactic| walk_at "s1x") => `(tactic| with_reducible first
  | refine w_seq ?_ | refine w_asg ?_ | refine w_drop ?_ | refine w_ret ?_ | refine w_retN ?_ | refine w_next ?_ | refine w_c ?_ | refine w_op ?_ | refine w_un ?_
  | refine w_fld ?_ | refine w_sfld ?_ | refine w_meth ?_ | refine w_call ?_ | refine w_cons ?_ | refine w_nil ?_ | refine w_cb ?_ | refine w_gname ?_ | refine w_lst ?_ | refine w_tup ?_
  | refine w_sl ?_ | refine w_nopart ?_ | refine w_part ?_ | refine w_parti ?_ | refine w_bm ?_ | refine w_test ?_ | refine w_tB ?_ | refine w_not ?_ | refine w_and_t ?_ | refine w_or_t ?_ | refine w_andV ?_ | refine w_orV ?_
  | refine w_for ?_ | refine w_ilist ?_ | refine w_rng1 ?_ | refine w_rev ?_ | refine w_istr ?_ | refine w_istr2 ?_ | refine w_zip ?_ | refine w_enum ?_ | refine w_lc ?_ | refine w_break ?_ | refine w_cont ?_ | refine w_dnew ?_
  | refine w_make ?_ | refine w_bl ?_ | refine w_isN ?_ | refine w_notN ?_ | refine w_neg ?_
  | refine w_add ?_ | refine w_sub ?_ | refine w_lt ?_ | refine w_le ?_ | refine w_gt ?_ | refine w_ge ?_ | refine w_eqI ?_ | refine w_neI ?_)
local macro_rules | `(tactic| walk_at "gx") => `(tactic| repeat' first | walk_at "s1x" | walk_at "sv")
/-! ### the specification's disk, action by action -/
theorem perform_eq (d : Fm08.Disk) : ∀ l : List Fm08.Act, Fm08.perform d l = { d with medium := (l.foldl actM (d.medium, d.way)).1, way := (l.foldl actM (d.medium, d.way)).2 } := by
  intro l
  unfold Fm08.perform
  induction l generalizing d with
  | nil => rfl
  | cons c l ih =>
    rw [List.foldl_cons, List.foldl_cons]
    cases c with
    | write b x => exact ih { d with way := d.way ++ [⟨b, x⟩] }
    | barrier => exact ih { d with medium := d.way.foldl (fun (m : List Fm08.Bytes) (w : Fm08.Write) => Fm08.arrived m w Fm08.SIZE) d.medium, way := [] }
theorem arrived_len (m : List Fm08.Bytes) (w : Fm08.Write) (k : Nat) : (Fm08.arrived m w k).length = m.length := by unfold Fm08.arrived; simp
theorem fold_arr_len : ∀ (way : List Fm08.Write) (m : List Fm08.Bytes), (way.foldl (fun m w => Fm08.arrived m w Fm08.SIZE) m).length = m.length
  | [], _ => rfl
  | w :: way, m => by rw [List.foldl_cons, fold_arr_len way, arrived_len]
theorem actM_len (d : List Fm08.Bytes × List Fm08.Write) (c : Fm08.Act) : (actM d c).1.length = d.1.length ∧ (actM d c).2.length ≤ d.2.length + 1 := by
  cases c with
  | write b x => exact ⟨rfl, by simp [actM]⟩
  | barrier => exact ⟨fold_arr_len d.2 d.1, by simp [actM]⟩
theorem fold_actM_len : ∀ (l : List Fm08.Act) (d : List Fm08.Bytes × List Fm08.Write), (l.foldl actM d).1.length = d.1.length ∧ (l.foldl actM d).2.length ≤ d.2.length + l.length
  | [], _ => ⟨rfl, by simp⟩
  | c :: l, d => by
    have h1 := actM_len d c
    have h2 := fold_actM_len l (actM d c)
    rw [List.foldl_cons, List.length_cons]
    omega
theorem ascii_lt : ∀ x ∈ Fm08.ascii "TALLYDSK", x < 256 := by rw [Dm.ascii_head]; decide
theorem ascii_lt2 : ∀ x ∈ Fm08.ascii "TALLYTXN", x < 256 := by rw [Dm.ascii_txn]; decide
theorem zeros_lt {n x : Nat} (h : x ∈ Fm08.zeros n) : x < 256 := by
  unfold Fm08.zeros at h
  rw [(List.mem_replicate.mp h).2]; decide
theorem head_isBlock (h : Fm08.Head) : Fm08.isBlock h.bytes = true := by
  rw [Dm.isBlock_iff]
  refine ⟨Dm.head_len h, fun x hx => ?_⟩
  rw [Dm.head_bytes] at hx
  unfold Dm.headData Fm08.filled at hx
  simp only [List.mem_append] at hx
  rcases hx with (((q | q | q | q | q | q) | q) | q | q)
  · exact ascii_lt x q
  all_goals first | exact Dm.little_lt q | exact zeros_lt q
theorem desc_isBlock {s n : Nat} {t : Fm08.Txn} (h : Fm08.txnOk n t = true) : Fm08.isBlock (Fm08.descriptor s t) = true := by
  have g := (Dm.txnOk_iff _ _).mp h
  rw [Dm.isBlock_iff]
  have el : ∀ t : Fm08.Txn, (∀ z ∈ t, Fm08.isBlock z.2 = true) → (t.flatMap entryOf).length = 16 * t.length := by
    intro t
    induction t with
    | nil => intro _; rfl
    | cons x t ih =>
      intro hz
      have h1 := ih fun z m => hz z (by simp [m])
      have h2 := ((Dm.isBlock_iff _).mp (hz x (by simp))).1
      rw [List.flatMap_cons, List.length_append, h1, List.length_cons]
      unfold entryOf
      rw [List.length_append, List.length_append, Dm.little_len, Dm.little_len, List.length_drop, h2]
      omega
  have hl := el t fun z m => (g.2.2.1 z m).2
  refine ⟨?_, fun x hx => ?_⟩
  · rw [desc_eq, List.length_append, List.length_append, List.length_append, txnHead_len, zeros_len, Dm.little_len, hl]
    omega
  · rw [desc_eq] at hx
    unfold txnHead at hx
    simp only [List.mem_append] at hx
    rcases hx with ((((q | q) | q | q) | q) | q | q)
    · exact ascii_lt2 x q
    · exact Dm.little_lt q
    · exact Dm.little_lt q
    · exact zeros_lt q
    · obtain ⟨z, hz, ez⟩ := List.mem_flatMap.mp q
      unfold entryOf at ez
      simp only [List.mem_append] at ez
      rcases ez with e | e | e
      · exact Dm.little_lt e
      · exact Dm.little_lt e
      · exact ((Dm.isBlock_iff _).mp (g.2.2.1 z hz).2).2 x (List.mem_of_mem_drop e)
    · exact zeros_lt q
    · exact Dm.little_lt q
theorem settling_acts {n : Nat} {u : Fm08.Up} (ok : UpOk n u) : ∀ c ∈ (Fm08.settling n u).1, ActOk n c := by
  intro c hc
  have sh := (Dm.shape_iff _ _).mp ok.sh
  unfold Fm08.settling at hc
  split at hc
  · simp at hc
  · rcases List.mem_append.mp hc with z | z
    · rw [List.mem_singleton.mp z]; trivial
    rcases List.mem_append.mp z with z | z
    · obtain ⟨y, hy, ey⟩ := List.mem_map.mp z
      subst ey
      have := ok.ov y hy
      have h1 := this.1
      unfold Fm08.homes at h1
      exact ⟨by omega, this.2⟩
    · simp only [List.mem_cons, List.not_mem_nil, or_false] at z
      rcases z with z | z | z
      · rw [z]; trivial
      · rw [z]
        exact ⟨by omega, head_isBlock _⟩
      · rw [z]; trivial
theorem pieces_blk {s n : Nat} {t : Fm08.Txn} (h : Fm08.txnOk n t = true) : ∀ b ∈ Fm08.pieces s t, Fm08.isBlock b = true := by
  have g := (Dm.txnOk_iff _ _).mp h
  intro b hb
  rcases List.mem_cons.mp hb with z | z
  · rw [z]; exact desc_isBlock h
  · obtain ⟨x, hx, ex⟩ := List.mem_map.mp z
    have := (Dm.isBlock_iff _).mp (g.2.2.1 x hx).2
    rw [← ex, Dm.isBlock_iff]
    refine ⟨by rw [List.length_append, List.length_take, Dm.little_len]; omega, fun y hy => ?_⟩
    rcases List.mem_append.mp hy with q | q
    · exact this.2 y (List.mem_of_mem_take q)
    · exact Dm.little_lt q
/-- a plan that is not refused: its actions can be done, what the disk knows then is sound -/
structure PlanOk (n : Nat) (x : List Fm08.Act × Fm08.Up) : Prop where
  acts : ∀ c ∈ x.1, ActOk n c
  up : UpOk n x.2
  len : x.1.length ≤ 7000
theorem after_ok {n : Nat} {u : Fm08.Up} {t : Fm08.Txn} (ok : UpOk n u) (ht : Fm08.txnOk (Fm08.homes n u.j) t = true) (hu : u.used + t.length + 1 ≤ u.j) : UpOk n (after u t) := by
  have sh := (Dm.shape_iff _ _).mp ok.sh
  have g := (Dm.txnOk_iff _ _).mp ht
  refine ⟨ok.sh, Nat.mod_lt _ (by omega), hu, Dm.putAll_sorted ok.so, fun x hx => ?_⟩
  rcases Dm.putAll_mem hx with e | e
  · exact g.2.2.1 x e
  · exact ok.ov x e
theorem planC_ok {n : Nat} {u : Fm08.Up} {t : Fm08.Txn} (ok : UpOk n u) {x : List Fm08.Act × Fm08.Up} (e : (planC n u t).2 = some x) : PlanOk n x ∧ 0 ≤ (planC n u t).1 := by
  have sh := (Dm.shape_iff _ _).mp ok.sh
  unfold planC at e ⊢
  by_cases c1 : Fm08.txnOk (Fm08.homes n u.j) t = false
  · rw [if_pos c1] at e; cases e
  have c1' : Fm08.txnOk (Fm08.homes n u.j) t = true := by simpa using c1
  have g := (Dm.txnOk_iff _ _).mp c1'
  rw [if_neg c1] at e ⊢
  by_cases c2 : u.j < t.length + 1
  · rw [if_pos c2] at e; cases e
  rw [if_neg c2] at e ⊢
  generalize hst : (if u.j < u.used + t.length + 1 then Fm08.settling n u else ([], u)) = st at *
  have sok : UpOk n st.2 ∧ st.2.j = u.j ∧ (∀ c ∈ st.1, ActOk n c) ∧ st.1.length ≤ 6000 ∧ st.2.used + t.length + 1 ≤ u.j := by
    rw [← hst]
    split
    · refine ⟨(settling_ok ok).1, (settling_ok ok).2, settling_acts ok, settling_len ok, ?_⟩
      unfold Fm08.settling
      split
      · omega
      · show 0 + t.length + 1 ≤ u.j; omega
    · exact ⟨ok, rfl, by simp, by simp, by show u.used + t.length + 1 ≤ u.j; omega⟩
  dsimp only at e ⊢
  cases e
  refine ⟨⟨fun c hc => ?_, after_ok sok.1 (by rw [sok.2.1]; exact c1') (by rw [sok.2.1]; exact sok.2.2.2.2), ?_⟩, by omega⟩
  · rcases List.mem_append.mp hc with z | z
    · exact sok.2.2.1 c z
    · obtain ⟨w, hw, ew⟩ := List.mem_map.mp z
      subst ew
      have hm := (List.mem_zipIdx' hw).2
      refine ⟨?_, pieces_blk c1' _ (by rw [hm]; exact List.getElem_mem _)⟩
      unfold Fm08.spot
      have := Nat.mod_lt (st.2.place + w.2) (show 0 < st.2.j by omega)
      rw [sok.2.1] at this ⊢
      omega
  · simp [Fm08.pieces]
    omega
theorem planM_ok {m : List Fm08.Bytes} (mk : Dm.Mok m) {x : List Fm08.Act × Fm08.Up} (e : (planM m).2 = some x) : PlanOk m.length x ∧ 0 ≤ (planM m).1 := by
  unfold planM at e ⊢
  cases eb : Fm08.best m with
  | none => rw [eb] at e; cases e
  | some h =>
    rw [eb] at e
    dsimp only at e ⊢
    have ok := Dm.best_ok eb
    have sh := (Dm.shape_iff _ _).mp ok.sh
    have hn := ok.n
    have fg := found_good m h.j h.j h.next h.place
    have fp := found_place m h.j (by omega) h.j h.next h.place ok.pl
    generalize Fm08.found m h.j h.j h.next h.place = r at *
    have fok := fold_put_ok (n := Fm08.homes m.length h.j) r.1 [] fg (by simp)
    have fso := fold_put_sorted r.1 [] (by simp [Dm.Sorted])
    have fln := Dm.sorted_len fso (fun z hz => (fok z hz).1)
    unfold Fm08.homes at fln
    cases e
    refine ⟨⟨fun c hc => ?_, ⟨by rw [← hn]; exact ok.sh, fp, Nat.zero_le _, by simp [Dm.Sorted], by simp⟩, by simp; omega⟩, by omega⟩
    rcases List.mem_append.mp hc with z | z
    · obtain ⟨w, hw, ew⟩ := List.mem_map.mp z
      subst ew
      have := fok w hw
      have h1 := this.1
      unfold Fm08.homes at h1
      exact ⟨by omega, this.2⟩
    · simp only [List.mem_cons, List.not_mem_nil, or_false] at z
      rcases z with z | z | z
      · rw [z]; trivial
      · rw [z]
        exact ⟨by omega, head_isBlock _⟩
      · rw [z]; trivial
theorem plan_ok {d : Fm08.Disk} (ok : DiskOk d) (o : Fm08.Op) {x : List Fm08.Act × Fm08.Up} (e : (Fm08.plan d o).2 = some x) : PlanOk d.medium.length x ∧ 0 ≤ (Fm08.plan d o).1 := by
  cases o with
  | commit t =>
    cases hu : d.up with
    | none => unfold Fm08.plan at e; rw [hu] at e; cases e
    | some u => rw [plan_commit d u t hu] at e ⊢; exact planC_ok (ok.up u hu) e
  | flush =>
    cases hu : d.up with
    | none => unfold Fm08.plan at e; rw [hu] at e; cases e
    | some u =>
      unfold Fm08.plan at e ⊢
      rw [hu] at e
      cases e
      exact ⟨⟨by simp [ActOk], ok.up u hu, by simp⟩, by rw [hu]; simp⟩
  | settle =>
    cases hu : d.up with
    | none => unfold Fm08.plan at e; rw [hu] at e; cases e
    | some u =>
      unfold Fm08.plan at e ⊢
      rw [hu] at e
      cases e
      have uo := ok.up u hu
      exact ⟨⟨settling_acts uo, (settling_ok uo).1, by have := settling_len uo; omega⟩, by rw [hu]; simp⟩
  | mend =>
    cases hu : d.up with
    | some u => unfold Fm08.plan at e; rw [hu] at e; cases e
    | none => rw [plan_mend d hu] at e ⊢; exact planM_ok ok.mok e
theorem plan_neg {d : Fm08.Disk} (o : Fm08.Op) (e : (Fm08.plan d o).2 = none) : (Fm08.plan d o).1 < 0 := by
  cases o with
  | commit t =>
    cases hu : d.up with
    | none => unfold Fm08.plan; rw [hu]; simp
    | some u =>
      rw [plan_commit d u t hu] at e ⊢
      unfold planC at e ⊢
      split
      · simp
      · rename_i c1
        rw [if_neg c1] at e
        split
        · simp
        · rename_i c2
          rw [if_neg c2] at e
          cases e
  | flush =>
    cases hu : d.up with
    | none => unfold Fm08.plan; rw [hu]; simp
    | some u => unfold Fm08.plan at e; rw [hu] at e; cases e
  | settle =>
    cases hu : d.up with
    | none => unfold Fm08.plan; rw [hu]; simp
    | some u => unfold Fm08.plan at e; rw [hu] at e; cases e
  | mend =>
    cases hu : d.up with
    | some u => unfold Fm08.plan; rw [hu]; simp
    | none =>
      rw [plan_mend d hu] at e ⊢
      unfold planM at e ⊢
      cases eb : Fm08.best d.medium with
      | none => simp
      | some h => rw [eb] at e; cases e
end Dk
namespace Dk
open PySem PySem.Spec PyProof.Rows L2
local macro_rules | `(tactic| walk_at "s1") => `(tactic| with_reducible first
  | refine w_seq ?_ | refine w_asg ?_ | refine w_drop ?_ | refine w_ret ?_ | refine w_retN ?_ | refine w_next ?_ | refine w_if ?_ | refine w_c ?_ | refine w_op ?_ | refine w_un ?_
  | refine w_fld ?_ | refine w_sfld ?_ | refine w_meth ?_ | refine w_call ?_ | refine w_cons ?_ | refine w_nil ?_ | refine w_cb ?_ | refine w_gname ?_ | refine w_lst ?_ | refine w_tup ?_
  | refine w_sl ?_ | refine w_nopart ?_ | refine w_part ?_ | refine w_parti ?_ | refine w_bm ?_ | refine w_test ?_ | refine w_tB ?_ | refine w_not ?_ | refine w_and_t ?_ | refine w_or_t ?_ | refine w_andV ?_ | refine w_orV ?_
  | refine w_for ?_ | refine w_ilist ?_ | refine w_rng1 ?_ | refine w_rev ?_ | refine w_istr ?_ | refine w_istr2 ?_ | refine w_zip ?_ | refine w_enum ?_ | refine w_lc ?_ | refine w_break ?_ | refine w_cont ?_ | refine w_dnew ?_
  | refine w_make ?_ | refine w_bl ?_ | refine w_isN ?_ | refine w_notN ?_ | refine w_neg ?_
  | refine w_add ?_ | refine w_sub ?_ | refine w_lt ?_ | refine w_le ?_ | refine w_gt ?_ | refine w_ge ?_ | refine w_eqI ?_ | refine w_neI ?_)
local macro_rules | `(tactic| walk_at "sv") => `(tactic| ((with_reducible refine' w_var ?hh ?_); (case hh => exact rfl)))
local macro_rules | `(tactic| walk_at "st") => `(tactic| first | walk_at "s1" | walk_at "sv")
local macro_rules | `(tactic| walk_at "go") => `(tactic| repeat' walk_at "st")
local macro_rules | `(tactic| walk_at "s1x") => `(tactic| with_reducible first
  | refine w_seq ?_ | refine w_asg ?_ | refine w_drop ?_ | refine w_ret ?_ | refine w_retN ?_ | refine w_next ?_ | refine w_c ?_ | refine w_op ?_ | refine w_un ?_
  | refine w_fld ?_ | refine w_sfld ?_ | refine w_meth ?_ | refine w_call ?_ | refine w_cons ?_ | refine w_nil ?_ | refine w_cb ?_ | refine w_gname ?_ | refine w_lst ?_ | refine w_tup ?_
  | refine w_sl ?_ | refine w_nopart ?_ | refine w_part ?_ | refine w_parti ?_ | refine w_bm ?_ | refine w_test ?_ | refine w_tB ?_ | refine w_not ?_ | refine w_and_t ?_ | refine w_or_t ?_ | refine w_andV ?_ | refine w_orV ?_
  | refine w_for ?_ | refine w_ilist ?_ | refine w_rng1 ?_ | refine w_rev ?_ | refine w_istr ?_ | refine w_istr2 ?_ | refine w_zip ?_ | refine w_enum ?_ | refine w_lc ?_ | refine w_break ?_ | refine w_cont ?_ | refine w_dnew ?_
  | refine w_make ?_ | refine w_bl ?_ | refine w_isN ?_ | refine w_notN ?_ | refine w_neg ?_
  | refine w_add ?_ | refine w_sub ?_ | refine w_lt ?_ | refine w_le ?_ | refine w_gt ?_ | refine w_ge ?_ | refine w_eqI ?_ | refine w_neI ?_)
local macro_rules | `(tactic| walk_at "gx") => `(tactic| repeat' first | walk_at "s1x" | walk_at "sv")
section
variable {K : PySem.W.Frag} {mg : Str → Option Value} {a : Ad} {vs : List V} {H H0 H1 : Hp} {Q : VK} {E : XK} {σ : L2.St}
/-! ### what the drive changes is none of what it knows -/
theorem nf_tup {xs : List V} : ¬ Foreign (.tup xs) := by rintro (⟨_, e⟩ | ⟨_, _, _, _, e⟩ | ⟨_, _, _, _, e⟩ | ⟨_, _, _, _, e⟩) <;> cases e
theorem nf_dK {kvs : List (Key × V)} : ¬ Foreign (.dK kvs) := by rintro (⟨_, e⟩ | ⟨_, _, _, _, e⟩ | ⟨_, _, _, _, e⟩ | ⟨_, _, _, _, e⟩) <;> cases e
theorem nf_ins {C dx : Addr} {fs : List (Str × V)} (h : fs.length ≠ 2) : ¬ Foreign (.ins C dx fs) := by
  rintro (⟨_, e⟩ | ⟨_, _, _, _, e⟩ | ⟨_, _, _, _, e⟩ | ⟨_, _, _, _, e⟩)
  · cases e
  all_goals (rw [(HO.ins.inj e).2.2] at h; exact h rfl)
theorem nf_int {xs : List V} {i : Int} : ¬ Foreign (.lst (V.int i :: xs)) := by
  rintro (⟨ys, e⟩ | ⟨_, _, _, _, e⟩ | ⟨_, _, _, _, e⟩ | ⟨_, _, _, _, e⟩)
  · cases ys with
    | nil => cases e
    | cons y ys => cases (List.cons.inj (HO.lst.inj e)).1
  all_goals cases e
theorem nf_non {xs : List V} : ¬ Foreign (.lst (V.non :: xs)) := by
  rintro (⟨ys, e⟩ | ⟨_, _, _, _, e⟩ | ⟨_, _, _, _, e⟩ | ⟨_, _, _, _, e⟩)
  · cases ys with
    | nil => cases e
    | cons y ys => cases (List.cons.inj (HO.lst.inj e)).1
  all_goals cases e
theorem nf_il {b : List Nat} (h : b ≠ []) : ¬ Foreign (.lst (il b)) := by
  cases b with
  | nil => exact absurd rfl h
  | cons x b => exact nf_int
def AllF (H : Hp) (F : List Addr) : Prop := ∀ q ∈ F, ∃ o, H q = some o ∧ Foreign o
theorem Keep.nf {H' : Hp} {F : List Addr} (k : Keep F H H') (hF : AllF H F) {r : Addr} {o : HO} (h : H r = some o) (n : ¬ Foreign o) : H' r = some o := k _ _ h fun m => by
  obtain ⟨o', e, f⟩ := hF r m
  rw [h] at e
  cases e
  exact n f
theorem LB.nf {H' : Hp} {F : List Addr} (k : Keep F H H') (hF : AllF H F) {p : Addr} {b : List Nat} (h : LB H p b) (n : b ≠ []) : LB H' p b := k.nf hF h (nf_il n)
theorem WrAt.nf {H' : Hp} {F : List Addr} (k : Keep F H H') (hF : AllF H F) {t : Addr} {w : Fm08.Write} (h : WrAt H t w) (n : w.bytes ≠ []) : WrAt H' t w := h.elim fun x e => ⟨x, k.nf hF e.1 nf_tup, e.2.nf k hF n⟩
theorem ActAt.nf {H' : Hp} {F : List Addr} (k : Keep F H H') (hF : AllF H F) {v : V} {c : Fm08.Act} {n : Nat} (h : ActAt H v c) (ok : ActOk n c) : ActAt H' v c := by
  cases c with
  | write b x => exact h.elim fun t e => ⟨t, e.1, e.2.nf k hF (Dm.isBlock_ne ok.2)⟩
  | barrier => exact h
theorem KnownAt.nf {H' : Hp} {F : List Addr} (k : Keep F H H') (hF : AllF H F) {p : Addr} {n : Nat} {u : Fm08.Up} (ne : ∀ y ∈ u.over, y.2 ≠ []) (h : KnownAt a H p n u) : KnownAt a H' p n u := by
  obtain ⟨hd, nw, S, nm, pl, ⟨dK, oK⟩, ⟨dH, oH⟩, ⟨dS, oS⟩, kvs, mm, z1, z2, z3⟩ := h.ex
  refine ⟨hd, nw, S, nm, pl, ⟨dK, k.nf hF oK (nf_ins (by simp [fl_Known]))⟩, ⟨dH, k.nf hF oH (nf_ins (by simp [fl_Head]))⟩, ⟨dS, k.nf hF oS (nf_ins (by simp [fl_Shape]))⟩, kvs, mm, k.nf hF z1 nf_dK, ?_, z3⟩
  have hmm : ∀ y ∈ mm, y.2 ≠ [] := fun y hy => ne y (z3.mem_iff.mp hy)
  clear z1 z3
  induction kvs generalizing mm with
  | nil => cases mm with
    | nil => trivial
    | cons y mm => exact z2.elim
  | cons z kvs ih => cases mm with
    | nil => exact z2.elim
    | cons y mm => exact ⟨⟨z2.1.1, z2.1.2.nf k hF (hmm y (by simp))⟩, ih mm z2.2 (fun w hw => hmm w (by simp [hw]))⟩
theorem MedAt.allF {p B W : Addr} {m : List Fm08.Bytes} {way : List Fm08.Write} (h : MedAt a H p B W m way) : AllF H [p, B, W] := by
  obtain ⟨dm, om⟩ := h.o
  obtain ⟨as, hB, _⟩ := h.b
  obtain ⟨ws, hW, _⟩ := h.w
  intro q hq
  simp only [List.mem_cons, List.not_mem_nil, or_false] at hq
  rcases hq with e | e | e
  · rw [e]; exact ⟨_, om, .inr (.inr (.inl ⟨_, _, _, _, rfl⟩))⟩
  · rw [e]; exact ⟨_, hB, .inl ⟨_, rfl⟩⟩
  · rw [e]; exact ⟨_, hW, .inl ⟨_, rfl⟩⟩
theorem DriveAt.allF {p md B W : Addr} {d : Fm08.Disk} (h : DriveAt a H p md B W d) : AllF H (DP p md B W) := by
  obtain ⟨⟨kn, ⟨dx, oD⟩, _⟩, M⟩ := h
  intro q hq
  rcases List.mem_cons.mp hq with e | e
  · rw [e]; exact ⟨_, oD, .inr (.inl ⟨_, _, _, _, rfl⟩)⟩
  · exact M.allF q e
theorem fl_ne {v w x y : V} : fl_Drive v w ≠ fl_Medium x y := by
  intro e
  have h2 : ("medium" : Str) = ("blocks" : Str) := congrArg Prod.fst (List.cons.inj e).1
  exact absurd h2 (by decide +kernel)
theorem DriveAt.out {p md B W : Addr} {d : Fm08.Disk} (h : DriveAt a H p md B W d) : p ∉ [md, B, W] := by
  obtain ⟨⟨kn, ⟨dx, oD⟩, _⟩, M⟩ := h
  obtain ⟨dm, om⟩ := M.o
  obtain ⟨as, hB, _⟩ := M.b
  obtain ⟨ws, hW, _⟩ := M.w
  simp only [List.mem_cons, List.not_mem_nil, or_false, not_or]
  exact ⟨ne_of oD om (by intro e; exact fl_ne (HO.ins.inj e).2.2), ne_of oD hB (by intro e; cases e), ne_of oD hW (by intro e; cases e)⟩
theorem DriveAt.known {p md B W : Addr} {d : Fm08.Disk} {u : Fm08.Up} (h : DriveAt a H p md B W d) (e : d.up = some u) : ∃ k, O_Drive a H p (.ref md) (.ref k) ∧ KnownAt a H k d.medium.length u := by
  obtain ⟨kn, h1, h2⟩ := h.o
  rw [e] at h2
  obtain ⟨k, rfl, hk⟩ := h2
  exact ⟨k, h1, hk⟩
theorem DriveAt.unknown {p md B W : Addr} {d : Fm08.Disk} (h : DriveAt a H p md B W d) (e : d.up = none) : O_Drive a H p (.ref md) .non := by
  obtain ⟨kn, h1, h2⟩ := h.o
  rw [e] at h2
  cases (h2 : kn = .non)
  exact h1
/-- MedAt while the drive's own object is stored to -/
theorem MedAt.keep1 {H' : Hp} {p q B W : Addr} {m : List Fm08.Bytes} {way : List Fm08.Write} (k : Keep [q] H H') {o : HO} (hq : H q = some o) (n1 : ∀ xs, o ≠ .lst xs) (n2 : ∀ xs, o ≠ .tup xs) (n3 : ∀ C dx v w, o ≠ .ins C dx (fl_Medium v w)) (h : MedAt a H p B W m way) : MedAt a H' p B W m way := by
  obtain ⟨dm, om⟩ := h.o
  obtain ⟨as, hB, hal⟩ := h.b
  obtain ⟨ws, hW, hwl⟩ := h.w
  have nl : ∀ {r : Addr} {xs : List V}, H r = some (.lst xs) → H' r = some (.lst xs) := fun e => k _ _ e (by simpa using ne_of e hq (fun z => n1 _ z.symm))
  have nt : ∀ {r : Addr} {xs : List V}, H r = some (.tup xs) → H' r = some (.tup xs) := fun e => k _ _ e (by simpa using ne_of e hq (fun z => n2 _ z.symm))
  exact ⟨⟨dm, k _ _ om (by simpa using ne_of om hq (fun z => n3 _ _ _ _ z.symm))⟩, ⟨as, nl hB, hal.imp fun _ _ e => nl e⟩, ⟨ws, nl hW, hwl.imp fun _ _ e => e.elim fun x z => ⟨x, nt z.1, nl z.2⟩⟩, h.ne, h.blk, h.in'⟩
theorem ln_Drive_init (h : sp_Drive_init K a vs H Q E) : vs.length = 1 := by obtain ⟨p, dx, rfl, _⟩ := h; rfl
theorem pure_Drive_init (T : Tx K mg a) (h : sp_Drive_init K a vs H Q E) : t_Drive_init K a { nx := fun _ H' => Q .non H', rt := Q } (L2.start N_Drive_init vs) H := by
  obtain ⟨p, dx, rfl, hp, q⟩ := h
  unfold t_Drive_init
  walk_at "go"
  refine ⟨by decide, fun B nB => ?_⟩
  have sB := same_new (o := .lst []) nB
  walk_at "go"
  refine mk_Medium fun M W H2 s2 nM nW oM hW => ?_
  walk_at "go"
  have s := sB.trans s2
  refine ini_Drive_medium T (s _ _ hp) fun H3 h3 k3 => ?_
  walk_at "go"
  refine ini_Drive_known T h3 fun H4 h4 k4 => ?_
  have k : Keep [p] H2 H4 := k3.trans k4
  have hB2 : H2 B = some (.lst ([] : List V)) := s2 _ _ upd_same
  have pne : ∀ {r : Addr} {o : HO}, H2 r = some o → (∀ fs, o ≠ .ins a.c_Drive dx fs) → H4 r = some o := fun e n => k _ _ e (by simpa using ne_of e (s _ _ hp) (n _))
  obtain ⟨dm, om⟩ := oM
  refine q H4 M B W ⟨⟨.non, ⟨dx, h4⟩, rfl⟩, ⟨⟨dm, k _ _ om (by simpa using ne_of om (s _ _ hp) (by intro e; have := (HO.ins.inj e).2.2; cases this))⟩, ⟨[], pne hB2 (by intro fs e; cases e), trivial⟩, ⟨[], pne hW (by intro fs e; cases e), trivial⟩, ?_, ?_, by simp [Fm08.nothing]⟩⟩ ?_ ((Keep.of s).trans k)
  · exact (ne_of_none upd_same nW).symm
  · intro b hb; simp [Fm08.nothing] at hb
  · intro b hb
    simp only [List.mem_cons, List.not_mem_nil, or_false] at hb
    rcases hb with e | e | e
    · rw [e]; exact sB.free nM
    · rw [e]; exact nB
    · rw [e]; exact sB.free nW
theorem ln_Drive_operation (h : sp_Drive_operation K a vs H Q E) : vs.length = 4 := by obtain ⟨p, md, B, W, d, kind, hs, ds, l, da, rfl, _⟩ := h; rfl
theorem pure_Drive_operation (T : Tx K mg a) (h : sp_Drive_operation K a vs H Q E) : t_Drive_operation K a { nx := fun _ H' => Q .non H', rt := Q } (L2.start N_Drive_operation vs) H := by
  obtain ⟨p, md, B, W, d, kind, hs, ds, l, da, rfl, hD, ok, hk3, hop, q⟩ := h
  unfold t_Drive_operation
  walk_at "go"
  have ek : ∀ c : Nat, decide ((kind : Int) = (c : Int)) = decide (kind = c) := fun c => decide_eq_decide.mpr (by omega)
  refine w_dec (fun c1 => ?_) (fun c1 => ?_)
  · have k3 : kind = 3 := by omega
    subst k3
    have eo : opN 3 l da = .mend := rfl
    rw [eo] at q
    cases hu : d.up with
    | some u =>
      obtain ⟨k, oD, hk⟩ := hD.known hu
      walk_at "go"
      refine g_Drive_known T oD ?_
      walk_at "go"
      rw [ref_non]
      refine w_tt ?_
      walk_at "go"
      refine ⟨-3, rfl, fun H2 r s2 nr hr => q H2 r s2 nr ?_⟩
      have e : Fm08.plan d .mend = (-3, none) := by unfold Fm08.plan; rw [hu]
      rw [e]
      exact hr _
    | none =>
      have oD := hD.unknown hu
      walk_at "go"
      refine g_Drive_known T oD ?_
      walk_at "go"
      rw [non_non]
      refine w_ff ?_
      walk_at "go"
      refine g_Drive_medium T oD (g_Medium_blocks T hD.m.o ?_)
      walk_at "go"
      refine ⟨B, d.medium, rfl, hD.m.b, ok.mok, fun H2 r s2 nr hr => q H2 r s2 nr ?_⟩
      rw [plan_mend d hu]
      exact hr
  · walk_at "go"
    cases hu : d.up with
    | none =>
      have oD := hD.unknown hu
      refine g_Drive_known T oD ?_
      walk_at "go"
      rw [non_non]
      refine w_tt ?_
      walk_at "go"
      refine ⟨-6, rfl, fun H2 r s2 nr hr => q H2 r s2 nr ?_⟩
      have e : Fm08.plan d (opN kind l da) = (-6, none) := by
        unfold opN
        split
        · unfold Fm08.plan; rw [hu]
        · split
          · unfold Fm08.plan; rw [hu]
          · split
            · unfold Fm08.plan; rw [hu]
            · omega
      rw [e]
      exact hr _
    | some u =>
      obtain ⟨k, oD, hk⟩ := hD.known hu
      have uo := ok.up u hu
      refine g_Drive_known T oD ?_
      walk_at "go"
      rw [ref_non]
      refine w_ff ?_
      walk_at "go"
      refine w_dec (fun c2 => ?_) (fun c2 => ?_)
      · have k0 : kind = 0 := by omega
        subst k0
        walk_at "go"
        refine g_Drive_known T oD ?_
        walk_at "go"
        refine ⟨k, hs, ds, d.medium.length, u, l, da, rfl, hk, uo, hop.1, hop.2.1, hop.2.2.1, hop.2.2.2.1, hop.2.2.2.2, fun H2 r s2 nr hr => q H2 r s2 nr ?_⟩
        have eo : opN 0 l da = .commit (txnOf l da) := rfl
        rw [eo, plan_commit d u _ hu]
        exact hr
      · walk_at "go"
        refine w_dec (fun c3 => ?_) (fun c3 => ?_)
        · have k1 : kind = 1 := by omega
          subst k1
          walk_at "go"
          refine g_Drive_known T oD ?_
          walk_at "go"
          refine ⟨k, d.medium.length, u, rfl, hk, fun H2 r s2 nr hr => q H2 r s2 nr ?_⟩
          have e : Fm08.plan d (opN 1 l da) = (0, some ([Fm08.Act.barrier], u)) := by show Fm08.plan d .flush = _; unfold Fm08.plan; rw [hu]
          rw [e]
          exact hr
        · have k2 : kind = 2 := by omega
          subst k2
          walk_at "go"
          refine g_Drive_known T oD ?_
          walk_at "go"
          refine ⟨k, d.medium.length, u, rfl, hk, uo, fun H2 r s2 nr hr => q H2 r s2 nr ?_⟩
          have e : Fm08.plan d (opN 2 l da) = (0, some (Fm08.settling d.medium.length u)) := by show Fm08.plan d .settle = _; unfold Fm08.plan; rw [hu]
          rw [e]
          exact hr
/-- doing a list of actions: the medium goes on as the specification's -/
structure Doing (a : Ad) (H : Hp) (md B W : Addr) (n : Nat) (d : List Fm08.Bytes × List Fm08.Write) (l : Addr) (vs : List V) (acts : List Fm08.Act) : Prop where
  med : MedAt a H md B W d.1 d.2
  lst : H l = some (.lst vs)
  out : l ∉ [md, B, W]
  al : Al (ActAt H) vs acts
  len : d.1.length = n
theorem Doing.step {H' : Hp} {md B W W' : Addr} {n : Nat} {d d' : List Fm08.Bytes × List Fm08.Write} {l : Addr} {vs : List V} {acts : List Fm08.Act} (h : Doing a H md B W n d l vs acts) (ok : ∀ c ∈ acts, ActOk n c) (M : MedAt a H' md B W' d'.1 d'.2) (k : Keep [md, B, W] H H') (w : W' = W ∨ H W' = none) (e : d'.1.length = n) : Doing a H' md B W' n d' l vs acts := by
  refine ⟨M, k _ _ h.lst h.out, ?_, ?_, e⟩
  · have ho := h.out
    simp only [List.mem_cons, List.not_mem_nil, or_false, not_or] at ho ⊢
    refine ⟨ho.1, ho.2.1, ?_⟩
    rcases w with z | z
    · rw [z]; exact ho.2.2
    · exact ne_of_none h.lst z
  · have hF := h.med.allF
    have hal := h.al
    clear M
    have go : ∀ {vs : List V} {acts : List Fm08.Act}, (∀ c ∈ acts, ActOk n c) → Al (ActAt H) vs acts → Al (ActAt H') vs acts := by
      intro vs
      induction vs with
      | nil => intro acts _ q; cases acts with
        | nil => trivial
        | cons y mm => exact q.elim
      | cons z kvs ih => intro acts o q; cases acts with
        | nil => exact q.elim
        | cons y mm => exact ⟨q.1.nf k hF (o y (by simp)), ih (fun c hc => o c (by simp [hc])) q.2⟩
    exact go ok hal
end
end Dk
namespace Dk
open PySem PySem.Spec PyProof.Rows L2
local macro_rules | `(tactic| walk_at "s1") => `(tactic| with_reducible first
  | refine w_seq ?_ | refine w_asg ?_ | refine w_drop ?_ | refine w_ret ?_ | refine w_retN ?_ | refine w_next ?_ | refine w_if ?_ | refine w_c ?_ | refine w_op ?_ | refine w_un ?_
  | refine w_fld ?_ | refine w_sfld ?_ | refine w_meth ?_ | refine w_call ?_ | refine w_cons ?_ | refine w_nil ?_ | refine w_cb ?_ | refine w_gname ?_ | refine w_lst ?_ | refine w_tup ?_
  | refine w_sl ?_ | refine w_nopart ?_ | refine w_part ?_ | refine w_parti ?_ | refine w_bm ?_ | refine w_test ?_ | refine w_tB ?_ | refine w_not ?_ | refine w_and_t ?_ | refine w_or_t ?_ | refine w_andV ?_ | refine w_orV ?_
  | refine w_for ?_ | refine w_ilist ?_ | refine w_rng1 ?_ | refine w_rev ?_ | refine w_istr ?_ | refine w_istr2 ?_ | refine w_zip ?_ | refine w_enum ?_ | refine w_lc ?_ | refine w_break ?_ | refine w_cont ?_ | refine w_dnew ?_
  | refine w_make ?_ | refine w_bl ?_ | refine w_isN ?_ | refine w_notN ?_ | refine w_neg ?_
  | refine w_add ?_ | refine w_sub ?_ | refine w_lt ?_ | refine w_le ?_ | refine w_gt ?_ | refine w_ge ?_ | refine w_eqI ?_ | refine w_neI ?_)
local macro_rules | `(tactic| walk_at "sv") => `(tactic| ((with_reducible refine' w_var ?hh ?_); (case hh => exact rfl)))
local macro_rules | `(tactic| walk_at "st") => `(tactic| first | walk_at "s1" | walk_at "sv")
local macro_rules | `(tactic| walk_at "go") => `(tactic| repeat' walk_at "st")
local macro_rules | `(tactic| walk_at "s1x") => `(tactic| with_reducible first
  | refine w_seq ?_ | refine w_asg ?_ | refine w_drop ?_ | refine w_ret ?_ | refine w_retN ?_ | refine w_next ?_ | refine w_c ?_ | refine w_op ?_ | refine w_un ?_
  | refine w_fld ?_ | refine w_sfld ?_ | refine w_meth ?_ | refine w_call ?_ | refine w_cons ?_ | refine w_nil ?_ | refine w_cb ?_ | refine w_gname ?_ | refine w_lst ?_ | refine w_tup ?_
  | refine w_sl ?_ | refine w_nopart ?_ | refine w_part ?_ | refine w_parti ?_ | refine w_bm ?_ | refine w_test ?_ | refine w_tB ?_ | refine w_not ?_ | refine w_and_t ?_ | refine w_or_t ?_ | refine w_andV ?_ | refine w_orV ?_
  | refine w_for ?_ | refine w_ilist ?_ | refine w_rng1 ?_ | refine w_rev ?_ | refine w_istr ?_ | refine w_istr2 ?_ | refine w_zip ?_ | refine w_enum ?_ | refine w_lc ?_ | refine w_break ?_ | refine w_cont ?_ | refine w_dnew ?_
  | refine w_make ?_ | refine w_bl ?_ | refine w_isN ?_ | refine w_notN ?_ | refine w_neg ?_
  | refine w_add ?_ | refine w_sub ?_ | refine w_lt ?_ | refine w_le ?_ | refine w_gt ?_ | refine w_ge ?_ | refine w_eqI ?_ | refine w_neI ?_)
local macro_rules | `(tactic| walk_at "gx") => `(tactic| repeat' first | walk_at "s1x" | walk_at "sv")
section
variable {K : PySem.W.Frag} {mg : Str → Option Value} {a : Ad} {vs : List V} {H H0 H1 : Hp} {Q : VK} {E : XK} {σ : L2.St}
theorem acts_loop (T : Tx K mg a) {p md B W l : Addr} {kn : V} {n i : Nat} {d0 : List Fm08.Bytes × List Fm08.Write} {us : List V} {acts : List Fm08.Act} {Dn : Ends} (P : L2.St → Prop) (hP : P σ) (hset : ∀ σ' v, P σ' → P (σ'.set i (some v)))
    (hv0 : ∀ σ', P σ' → σ'[0]? = some (some (V.ref p))) (hvi : ∀ σ' v, P σ' → (σ'.set i (some v))[i]? = some (some v)) (oD : O_Drive a H p (.ref md) kn) (pout : p ∉ [md, B, W]) (h : Doing a H md B W n d0 l us acts) (ok : ∀ c ∈ acts, ActOk n c) (hw : d0.2.length + acts.length < 100000)
    (hd : ∀ σ' H' W', P σ' → MedAt a H' md B W' (acts.foldl actM d0).1 (acts.foldl actM d0).2 → Fr H H' [md, B, W] [md, B, W'] → Dn.nx σ' H') :
    forB (Itl K l) (gName i) (tDrop (tMeth a.c_Medium "act" (sp_Medium_act K a) [] E0 (tFld K (tVar 0) "medium") (tCons (tVar i) tNil))) Dn σ H := by
  have ul : us.length = acts.length := h.al.len
  obtain ⟨dD, oD⟩ := oD
  refine w_loop walk_list (fun q σ' H' => P σ' ∧ ∃ W', Fr H H' [md, B, W] [md, B, W'] ∧ Doing a H' md B W' n ((acts.take q).foldl actM d0) l us acts) ⟨hP, W, Fr.same _ (Same.refl H), by simpa using h⟩ (fun q σ' H' _ h => by obtain ⟨_, _, _, D⟩ := h; exact .of D.lst) ?_ ?_
  · rintro q x σ' H' H'' hi ⟨hp, W', fr, D⟩ ⟨rfl, hx⟩
    obtain ⟨c, hc⟩ : ∃ c, acts[q]? = some c := ⟨acts[q]'(by omega), by rw [List.getElem?_eq_getElem]⟩
    obtain ⟨c', hc', hA⟩ := D.al.get hx
    rw [hc] at hc'
    cases hc'
    have cok := ok c (List.mem_of_getElem? hc)
    walk_at "s1"
    walk_at "s1"
    walk_at "s1"
    walk_at "s1"
    refine w_var (hv0 _ (hset _ _ hp)) ?_
    refine g_Drive_medium T ⟨dD, fr.k _ _ oD pout⟩ ?_
    obtain ⟨dm, om⟩ := D.med.o
    refine m_Medium_act ⟨dm, om⟩ ?_
    walk_at "s1"
    refine w_var (hvi _ _ hp) ?_
    walk_at "s1"
    have wl := (fold_actM_len (acts.take q) d0).2
    rw [List.length_take] at wl
    refine ⟨md, B, W', _, _, x, c, rfl, D.med, by omega, hA, by rw [D.len]; exact cok, fun H3 W3 M3 k3 w3 => ?_⟩
    have st := D.step ok (d' := actM ((acts.take q).foldl actM d0) c) M3 k3 w3 (((actM_len _ _).1).trans D.len)
    refine ⟨hset _ _ hp, W3, fr.trans ⟨k3, fun b hb => ?_⟩, ?_⟩
    · simp only [List.mem_cons, List.not_mem_nil, or_false] at hb ⊢
      rcases hb with e | e | e
      · exact .inl (.inl e)
      · exact .inl (.inr (.inl e))
      · rcases w3 with z | z
        · exact .inl (.inr (.inr (e.trans z)))
        · exact .inr (by rw [e]; exact z)
    · rw [List.take_add_one, hc, List.foldl_append]
      exact st
  · rintro σ' H' ⟨hp, W', fr, D⟩
    rw [ul, List.take_length] at D
    exact hd σ' H' W' hp D.med fr
theorem Fr.wide {H' : Hp} {p md B W W' : Addr} (f : Fr H H' [md, B, W] [md, B, W']) : Fr H H' (DP p md B W) (DP p md B W') := by
  refine ⟨f.k.mono fun x m => List.mem_cons_of_mem _ m, fun b m => ?_⟩
  rcases List.mem_cons.mp m with e | e
  · exact .inl (by rw [e]; exact List.mem_cons_self)
  · exact (f.n b e).imp (List.mem_cons_of_mem _) id
theorem fr_p {H' : Hp} {p md B W : Addr} (k : Keep [p] H H') : Fr H H' (DP p md B W) (DP p md B W) := ⟨k.mono (by simp [DP]), fun b m => .inl m⟩
theorem Fr.back {H' : Hp} {F F' : List Addr} (f : Fr H H' F F') {r : Addr} (n : H' r = none) : H r = none ∨ r ∈ F := by
  by_cases h : r ∈ F
  · exact .inr h
  · refine .inl ?_
    cases e : H r with
    | none => rfl
    | some o => rw [f.k _ _ e h] at n; cases n
/-- the actions' list of an operation at its beginning -/
theorem doing_of {p md B W o l : Addr} {d : Fm08.Disk} {acts : List Fm08.Act} (hD : DriveAt a H1 p md B W d) (nn : ∀ b ∈ DP p md B W, H0 b ≠ none) (nl : H0 l = none) (hA : ActsAt H1 l acts) : ∃ us, Doing a H1 md B W d.medium.length (d.medium, d.way) l us acts := by
  obtain ⟨us, e, al⟩ := hA
  refine ⟨us, hD.m, e, fun m => ?_, al, rfl⟩
  exact nn l (List.mem_cons_of_mem _ m) nl
theorem DriveAt.there {p md B W : Addr} {d : Fm08.Disk} (h : DriveAt a H p md B W d) : ∀ b ∈ DP p md B W, H b ≠ none := fun b m e => by
  obtain ⟨o, e2, _⟩ := h.allF b m
  rw [e] at e2; cases e2
theorem ln_Drive_operate (h : sp_Drive_operate K a vs H Q E) : vs.length = 4 := by obtain ⟨p, md, B, W, d, kind, hs, ds, l, da, rfl, _⟩ := h; rfl
theorem pure_Drive_operate (T : Tx K mg a) (h : sp_Drive_operate K a vs H Q E) : t_Drive_operate K a { nx := fun _ H' => Q .non H', rt := Q } (L2.start N_Drive_operate vs) H := by
  obtain ⟨p, md, B, W, d, kind, hs, ds, ho, da, rfl, hD, ok, hk3, hop, q⟩ := h
  unfold t_Drive_operate
  walk_at "go"
  obtain ⟨kn, ⟨dD, oD⟩, _⟩ := hD.o
  refine m_Drive_operation ⟨dD, oD⟩ ?_
  walk_at "go"
  refine ⟨p, md, B, W, d, kind, hs, ds, ho, da, rfl, hD, ok, hk3, hop, fun H1 o s1 no hO => ?_⟩
  have hD1 := hD.mono s1
  have nn := hD.there
  cases ep : (Fm08.plan d (opN kind ho da)).2 with
  | none =>
    have neg := plan_neg _ ep
    unfold OpAt at hO
    rw [ep] at hO
    obtain ⟨l, oO, nl, hl⟩ := hO
    walk_at "go"
    refine g_Operation_answer T oO ?_
    walk_at "go"
    refine w_dec (fun c => absurd c (by omega)) (fun c => ?_)
    walk_at "go"
    refine g_Operation_answer T oO ?_
    walk_at "go"
    refine ⟨by show 1 ≤ sizeLine; decide, fun r nr => ?_⟩
    have sr := same_new (o := .lst [V.int (Fm08.plan d (opN kind ho da)).1]) nr
    have ea : Fm08.after d (opN kind ho da) = d := by unfold Fm08.after; rw [ep]
    rw [ea] at q
    exact q _ W r (hD1.mono sr) upd_same (Fr.same _ (s1.trans sr)) (.inl (s1.free nr))
  | some x =>
    have po := plan_ok ok _ ep
    unfold OpAt at hO
    rw [ep] at hO
    obtain ⟨l, k, ⟨dO, oO⟩, nl, hA, hK⟩ := hO
    obtain ⟨us, hdo⟩ := doing_of (o := o) hD1 nn nl hA
    obtain ⟨kn1, ⟨dD1, oD1⟩, _⟩ := hD1.o
    walk_at "go"
    refine g_Operation_answer T ⟨dO, oO⟩ ?_
    walk_at "go"
    refine w_dec (fun c => ?_) (fun c => absurd po.2 (by omega))
    walk_at "go"
    refine g_Operation_actions T ⟨dO, oO⟩ ?_
    walk_at "go"
    refine w_ilist2 (.of hdo.lst) ?_
    refine acts_loop T (fun σ' => ∃ v, σ' = [some (.ref p), some (.int (kind : Int)), some (.ref hs), some (.ref ds), some (.ref o), v]) ⟨_, rfl⟩ (fun σ' v h => by obtain ⟨_, rfl⟩ := h; exact ⟨_, rfl⟩) (fun σ' h => by obtain ⟨_, rfl⟩ := h; rfl) (fun σ' v h => by obtain ⟨_, rfl⟩ := h; rfl)
      ⟨dD1, oD1⟩ hD1.out hdo po.1.acts (by have h1 := ok.way; have h2 := po.1.len; show d.way.length + _ < _; omega) ?_
    rintro σ' H3 W3 ⟨v, rfl⟩ M3 fr
    have hF := hdo.med.allF
    have oO3 := fr.k.nf hF oO (nf_ins (by simp [fl_Operation]))
    have hK3 := hK.nf fr.k hF (over_ne po.1.up)
    have oD3 := fr.k _ _ oD1 hD1.out
    walk_at "go"
    refine g_Operation_known T ⟨dO, oO3⟩ ?_
    walk_at "go"
    refine st_Drive_known T ⟨dD1, oD3⟩ fun H4 oD4 k4 => ?_
    have hF4 : AllF H3 [p] := fun q hq => by rw [List.mem_singleton.mp hq]; exact ⟨_, oD3, .inr (.inl ⟨_, _, _, _, rfl⟩)⟩
    have oO4 := k4.nf hF4 oO3 (nf_ins (by simp [fl_Operation]))
    walk_at "go"
    refine g_Operation_answer T ⟨dO, oO4⟩ ?_
    walk_at "go"
    refine ⟨by show 1 ≤ sizeLine; decide, fun r nr => ?_⟩
    have sr := same_new (o := .lst [V.int (Fm08.plan d (opN kind ho da)).1]) nr
    have ea : Fm08.after d (opN kind ho da) = { Fm08.perform d x.1 with up := some x.2 } := by unfold Fm08.after; rw [ep]
    rw [ea, perform_eq] at q
    have M4 : MedAt a H4 md B W3 (x.1.foldl actM (d.medium, d.way)).1 (x.1.foldl actM (d.medium, d.way)).2 := MedAt.keep1 k4 oD3 (by intro xs e; cases e) (by intro xs e; cases e) (by intro C dx v w e; exact fl_ne (HO.ins.inj e).2.2) M3
    have hK4 := hK3.nf k4 hF4 (over_ne po.1.up)
    have fr4 : Fr H H4 (DP p md B W) (DP p md B W3) := ((Fr.same _ s1).trans fr.wide).trans (fr_p k4)
    refine q _ W3 r ⟨⟨_, O_Drive.mono sr oD4, k, rfl, ?_⟩, M4.mono sr⟩ upd_same (fr4.trans (Fr.same _ sr)) (fr4.back nr)
    show KnownAt a _ k (x.1.foldl actM (d.medium, d.way)).1.length x.2
    rw [(fold_actM_len x.1 (d.medium, d.way)).1]
    exact hK4.mono sr
theorem ln_Drive_cut (h : sp_Drive_cut K a vs H Q E) : vs.length = 2 := by obtain ⟨p, md, B, W, d, rw', row, rfl, _⟩ := h; rfl
theorem pure_Drive_cut (T : Tx K mg a) (h : sp_Drive_cut K a vs H Q E) : t_Drive_cut K a { nx := fun _ H' => Q .non H', rt := Q } (L2.start N_Drive_cut vs) H := by
  obtain ⟨p, md, B, W, d, r0, row, rfl, hD, hr, rB, q⟩ := h
  obtain ⟨kn, ⟨dD, oD⟩, _⟩ := hD.o
  have po := hD.out
  obtain ⟨dm, om⟩ := hD.m.o
  unfold t_Drive_cut
  walk_at "go"
  refine g_Drive_medium T ⟨dD, oD⟩ ?_
  refine m_Medium_arrive ⟨dm, om⟩ ?_
  walk_at "go"
  refine ⟨md, B, W, d.medium, d.way, r0, row, rfl, hD.m, hr, rB, fun H1 M1 k1 => ?_⟩
  have k1' : Keep [md, B, W] H H1 := k1.mono (by simp)
  have oD1 := k1' _ _ oD po
  obtain ⟨dm1, om1⟩ := M1.o
  walk_at "go"
  refine g_Drive_medium T ⟨dD, oD1⟩ ?_
  refine m_Medium_lose ⟨dm1, om1⟩ ?_
  walk_at "go"
  refine ⟨md, B, W, _, _, rfl, M1, fun H2 W2 M2 k2 n2 => ?_⟩
  have k2' : Keep [md, B, W] H1 H2 := k2.mono (by simp)
  have oD2 := k2' _ _ oD1 po
  have f2 : Fr H H2 [md, B, W] [md, B, W2] := ⟨k1'.trans k2', fun b hb => by
    simp only [List.mem_cons, List.not_mem_nil, or_false] at hb ⊢
    rcases hb with e | e | e
    · exact .inl (.inl e)
    · exact .inl (.inr (.inl e))
    · by_cases hbB : b = B
      · exact .inl (.inr (.inl hbB))
      · refine .inr ?_
        cases e2 : H b with
        | none => rfl
        | some o =>
          have := k1 _ _ e2 (by simpa using hbB)
          rw [e, n2] at this
          cases this⟩
  walk_at "go"
  refine st_Drive_known T ⟨dD, oD2⟩ fun H3 oD3 k3 => ?_
  walk_at "go"
  refine ⟨by decide, fun r nr => ?_⟩
  have sr := same_new (o := .lst [V.int 0]) nr
  have M3 : MedAt a H3 md B W2 (Fm08.reached d.medium d.way row) [] := MedAt.keep1 k3 oD2 (by intro xs e; cases e) (by intro xs e; cases e) (by intro C dx v w e; exact fl_ne (HO.ins.inj e).2.2) M2
  have f3 : Fr H H3 (DP p md B W) (DP p md B W2) := f2.wide.trans (fr_p k3)
  exact q _ W2 r ⟨⟨.non, O_Drive.mono sr oD3, rfl⟩, M3.mono sr⟩ upd_same (f3.trans (Fr.same _ sr)) (f3.back nr)
theorem ln_Drive_cut_in (h : sp_Drive_cut_in K a vs H Q E) : vs.length = 4 := by obtain ⟨p, md, B, W, d, o, H0, r0, row, op, n, rfl, _⟩ := h; rfl
theorem op_acts {o : Addr} {n : Nat} {r : Int × Option (List Fm08.Act × Fm08.Up)} (h : OpAt a H0 H o n r) : ∃ l kn, O_Operation a H o (.int r.1) (.ref l) kn ∧ H0 l = none ∧ ActsAt H l (match r.2 with | none => [] | some x => x.1) := by
  unfold OpAt at h
  cases e : r.2 with
  | none =>
    rw [e] at h
    obtain ⟨l, h1, h2, h3⟩ := h
    exact ⟨l, _, h1, h2, [], h3, trivial⟩
  | some x =>
    rw [e] at h
    obtain ⟨l, k, h1, h2, h3, _⟩ := h
    exact ⟨l, _, h1, h2, h3⟩
theorem cutIn_eq (d : Fm08.Disk) (op : Fm08.Op) (n : Nat) (row : List Nat) : Fm08.cutIn d op n row = Fm08.cut (Fm08.perform d ((match (Fm08.plan d op).2 with | none => [] | some x => x.1).take n)) row := by
  unfold Fm08.cutIn
  cases (Fm08.plan d op).2 with
  | none => simp [Fm08.perform]
  | some x => rfl
theorem pure_Drive_cut_in (T : Tx K mg a) (h : sp_Drive_cut_in K a vs H Q E) : t_Drive_cut_in K a { nx := fun _ H' => Q .non H', rt := Q } (L2.start N_Drive_cut_in vs) H := by
  obtain ⟨p, md, B, W, d, o, H0, r0, row, op, n, rfl, hD, ok, hr, rD, hO, nn, q⟩ := h
  obtain ⟨kn, ⟨dD, oD⟩, hkn⟩ := hD.o
  obtain ⟨l, kn2, ⟨dO, oO⟩, nl, us, hl, al⟩ := op_acts hO
  rw [cutIn_eq] at q
  have aok : ∀ c ∈ (match (Fm08.plan d op).2 with | none => [] | some x => x.1), ActOk d.medium.length c := by
    cases e : (Fm08.plan d op).2 with
    | none => simp
    | some x => exact (plan_ok ok op e).1.acts
  have alen : (match (Fm08.plan d op).2 with | none => [] | some x => x.1).length ≤ 7000 := by
    cases e : (Fm08.plan d op).2 with
    | none => simp
    | some x => exact (plan_ok ok op e).1.len
  generalize (match (Fm08.plan d op).2 with | none => [] | some x => x.1) = acts at *
  unfold t_Drive_cut_in
  walk_at "go"
  refine g_Operation_actions T ⟨dO, oO⟩ ?_
  walk_at "go"
  refine w_slL (.of hl) fun L nL => ?_
  rw [cut_to]
  have sL := same_new (o := .lst (us.take n)) nL
  refine w_ilist2 (.of upd_same) ?_
  have hdo : Doing a (upd H L (.lst (us.take n))) md B W d.medium.length (d.medium, d.way) L (us.take n) (acts.take n) := ⟨hD.m.mono sL, upd_same, fun m => hD.there L (List.mem_cons_of_mem _ m) nL, (al.take n).imp fun _ _ k => k.mono sL, rfl⟩
  have hF := hdo.med.allF
  refine acts_loop T (fun σ' => ∃ v, σ' = [some (.ref p), some (.int (n : Int)), some (.ref o), some (.ref r0), v]) ⟨_, rfl⟩ (fun σ' v h => by obtain ⟨_, rfl⟩ := h; exact ⟨_, rfl⟩) (fun σ' h => by obtain ⟨_, rfl⟩ := h; rfl) (fun σ' v h => by obtain ⟨_, rfl⟩ := h; rfl)
    ⟨dD, sL _ _ oD⟩ hD.out hdo (fun c hc => aok c (List.mem_of_mem_take hc)) (by have h1 := ok.way; rw [List.length_take]; show d.way.length + _ < _; omega) ?_
  rintro σ' H3 W3 ⟨v, rfl⟩ M3 fr
  have oD3 := fr.k _ _ (sL _ _ oD) hD.out
  have r3 : r0 ∉ [md, B, W] := fun m => rD (List.mem_cons_of_mem _ m)
  have hr3 : LB H3 r0 row := fr.k _ _ (sL _ _ hr) r3
  have ml := (fold_actM_len (acts.take n) (d.medium, d.way)).1
  have hD3 : DriveAt a H3 p md B W3 (Fm08.perform d (acts.take n)) := by
    rw [perform_eq]
    refine ⟨⟨kn, ⟨dD, oD3⟩, ?_⟩, M3⟩
    cases hu : d.up with
    | none => rw [hu] at hkn; exact hkn
    | some u =>
      rw [hu] at hkn
      obtain ⟨k, e, hk⟩ := hkn
      refine ⟨k, e, ?_⟩
      show KnownAt a H3 k ((acts.take n).foldl actM (d.medium, d.way)).1.length u
      rw [ml]
      exact (hk.mono sL).nf fr.k hF (over_ne (ok.up u hu))
  walk_at "go"
  refine m_Drive_cut ⟨dD, oD3⟩ ?_
  walk_at "go"
  refine ⟨p, md, B, W3, _, r0, row, rfl, hD3, hr3, fun e => r3 (by rw [e]; simp), fun H4 W4 r D4 l4 f4 n4 => ?_⟩
  have f : Fr H H3 (DP p md B W) (DP p md B W3) := (Fr.same _ sL).trans fr.wide
  refine q H4 W4 r D4 l4 (f.trans f4) ?_
  rcases n4 with z | z
  · exact f.back z
  · exact (f.n r z).symm
end
end Dk
namespace Dk
open PySem PySem.Spec PyProof.Rows L2
local macro_rules | `(tactic| walk_at "s1") => `(tactic| with_reducible first
  | refine w_seq ?_ | refine w_asg ?_ | refine w_drop ?_ | refine w_ret ?_ | refine w_retN ?_ | refine w_next ?_ | refine w_if ?_ | refine w_c ?_ | refine w_op ?_ | refine w_un ?_
  | refine w_fld ?_ | refine w_sfld ?_ | refine w_meth ?_ | refine w_call ?_ | refine w_cons ?_ | refine w_nil ?_ | refine w_cb ?_ | refine w_gname ?_ | refine w_lst ?_ | refine w_tup ?_
  | refine w_sl ?_ | refine w_nopart ?_ | refine w_part ?_ | refine w_parti ?_ | refine w_bm ?_ | refine w_test ?_ | refine w_tB ?_ | refine w_not ?_ | refine w_and_t ?_ | refine w_or_t ?_ | refine w_andV ?_ | refine w_orV ?_
  | refine w_for ?_ | refine w_ilist ?_ | refine w_rng1 ?_ | refine w_rev ?_ | refine w_istr ?_ | refine w_istr2 ?_ | refine w_zip ?_ | refine w_enum ?_ | refine w_lc ?_ | refine w_break ?_ | refine w_cont ?_ | refine w_dnew ?_
  | refine w_make ?_ | refine w_bl ?_ | refine w_isN ?_ | refine w_notN ?_ | refine w_neg ?_
  | refine w_add ?_ | refine w_sub ?_ | refine w_lt ?_ | refine w_le ?_ | refine w_gt ?_ | refine w_ge ?_ | refine w_eqI ?_ | refine w_neI ?_)
local macro_rules | `(tactic| walk_at "sv") => `(tactic| ((with_reducible refine' w_var ?hh ?_); (case hh => exact rfl)))
local macro_rules | `(tactic| walk_at "st") => `(tactic| first | walk_at "s1" | walk_at "sv")
local macro_rules | `(tactic| walk_at "go") => `(tactic| repeat' walk_at "st")
local macro_rules | `(tactic| walk_at "s1x") => `(tactic| with_reducible first
  | refine w_seq ?_ | refine w_asg ?_ | refine w_drop ?_ | refine w_ret ?_ | refine w_retN ?_ | refine w_next ?_ | refine w_c ?_ | refine w_op ?_ | refine w_un ?_
  | refine w_fld ?_ | refine w_sfld ?_ | refine w_meth ?_ | refine w_call ?_ | refine w_cons ?_ | refine w_nil ?_ | refine w_cb ?_ | refine w_gname ?_ | refine w_lst ?_ | refine w_tup ?_
  | refine w_sl ?_ | refine w_nopart ?_ | refine w_part ?_ | refine w_parti ?_ | refine w_bm ?_ | refine w_test ?_ | refine w_tB ?_ | refine w_not ?_ | refine w_and_t ?_ | refine w_or_t ?_ | refine w_andV ?_ | refine w_orV ?_
  | refine w_for ?_ | refine w_ilist ?_ | refine w_rng1 ?_ | refine w_rev ?_ | refine w_istr ?_ | refine w_istr2 ?_ | refine w_zip ?_ | refine w_enum ?_ | refine w_lc ?_ | refine w_break ?_ | refine w_cont ?_ | refine w_dnew ?_
  | refine w_make ?_ | refine w_bl ?_ | refine w_isN ?_ | refine w_notN ?_ | refine w_neg ?_
  | refine w_add ?_ | refine w_sub ?_ | refine w_lt ?_ | refine w_le ?_ | refine w_gt ?_ | refine w_ge ?_ | refine w_eqI ?_ | refine w_neI ?_)
local macro_rules | `(tactic| walk_at "gx") => `(tactic| repeat' first | walk_at "s1x" | walk_at "sv")
section
variable {K : PySem.W.Frag} {mg : Str → Option Value} {a : Ad} {vs : List V} {H H0 H1 : Hp} {Q : VK} {E : XK} {σ : L2.St}
theorem ln_Drive_make (h : sp_Drive_make K a vs H Q E) : vs.length = 3 := by obtain ⟨p, md, B, W, d, n, j, rfl, _⟩ := h; rfl
theorem zeros_block : Fm08.isBlock (Fm08.zeros Fm08.SIZE) = true := by
  rw [Dm.isBlock_iff]
  exact ⟨zeros_len _, fun x h => zeros_lt h⟩
theorem pure_Drive_make (T : Tx K mg a) (h : sp_Drive_make K a vs H Q E) : t_Drive_make K a { nx := fun _ H' => Q .non H', rt := Q } (L2.start N_Drive_make vs) H := by
  obtain ⟨p, md, B, W, d, n, j, rfl, hD, q⟩ := h
  unfold t_Drive_make
  walk_at "go"
  refine ⟨n, j, rfl, ?_⟩
  have es : Fm08.spec d (.make n j) = if (decide (0 ≤ n) && (decide (0 ≤ j) && Fm08.shapeOk n.toNat j.toNat)) = true then (Fm08.only 0, Fm08.made n.toNat j.toNat) else (Fm08.only (-2), d) := rfl
  cases c : (decide (0 ≤ n) && (decide (0 ≤ j) && Fm08.shapeOk n.toNat j.toNat)) with
  | false =>
    rw [c, if_neg Bool.false_ne_true] at es
    rw [es] at q
    walk_at "go"
    refine w_tt ?_
    walk_at "go"
    refine ⟨by decide, fun r nr => ?_⟩
    have sr := same_new (o := .lst [V.int (-2)]) nr
    exact q _ md B W r (hD.mono sr) upd_same (Fr.same _ sr) (.inl nr)
  | true =>
    rw [c, if_pos rfl] at es
    rw [es] at q
    rw [shape_dec] at c
    have c' := of_decide_eq_true c
    obtain ⟨n, rfl⟩ : ∃ m : Nat, n = (m : Int) := ⟨n.toNat, by omega⟩
    obtain ⟨j, rfl⟩ : ∃ m : Nat, j = (m : Int) := ⟨j.toNat, by omega⟩
    rw [Int.toNat_natCast, Int.toNat_natCast] at q
    walk_at "go"
    refine w_ff ?_
    walk_at "go"
    refine mk_Shape fun S H1 s1 nS oS => ?_
    walk_at "go"
    refine mk_Head fun D1 H2 s2 nD1 oD1 => ?_
    have hD1 : HeadAt a H2 D1 ⟨1, n, j, 1, 0⟩ := ⟨S, oD1, O_Shape.mono s2 oS⟩
    walk_at "go"
    refine mk_Head fun D0 H3 s3 nD0 oD0 => ?_
    have hD0 : HeadAt a H3 D0 ⟨0, n, j, 1, 0⟩ := ⟨S, oD0, (O_Shape.mono (s2.trans s3) oS)⟩
    walk_at "go"
    refine ⟨D0, _, rfl, hD0, fun H4 h0 s4 n0 b0 => ?_⟩
    walk_at "go"
    refine ⟨D1, _, rfl, (hD1.mono s3).mono s4, fun H5 h1 s5 n1 b1 => ?_⟩
    walk_at "go"
    refine ⟨by show 2 ≤ sizeLine; decide, fun L nL => ?_⟩
    have sL := same_new (o := .lst [V.ref h0, V.ref h1]) nL
    have b0' := (b0.mono s5).mono sL
    have b1' := b1.mono sL
    have s6 := ((((s1.trans s2).trans s3).trans s4).trans s5).trans sL
    have hD1' : HeadAt a (upd H5 L (.lst [V.ref h0, V.ref h1])) D1 ⟨1, n, j, 1, 0⟩ := (((hD1.mono s3).mono s4).mono s5).mono sL
    have hL : (upd H5 L (.lst [V.ref h0, V.ref h1])) L = some (.lst [V.ref h0, V.ref h1]) := upd_same
    generalize upd H5 L (.lst [V.ref h0, V.ref h1]) = H6 at *
    walk_at "go"
    refine ⟨by decide, fun Z nZ => ?_⟩
    have sZ := same_new (o := .lst [V.int 0]) nZ
    walk_at "go"
    refine x_rep (show LB (upd H6 Z (.lst [V.int 0])) Z [0] from upd_same) (by decide) (by decide) fun H7 z s7 nz bz => ?_
    walk_at "go"
    refine ⟨by show 1 ≤ sizeLine; decide, fun Y nY => ?_⟩
    have sY := same_new (o := .lst [V.ref z]) nY
    walk_at "go"
    have hn : ((n : Int) - 2).toNat = n - 2 := by omega
    refine w_rep upd_same (by omega) (by omega) (by rw [hn]; simp [sizeLine]; omega) fun R nR => ?_
    rw [hn]
    have er : (List.replicate (n - 2) [V.ref z]).flatten = (List.replicate (n - 2) z).map V.ref := by
      rw [List.map_replicate]
      generalize n - 2 = k
      induction k with
      | zero => rfl
      | succ k ih => rw [List.replicate_succ, List.flatten_cons, ih, List.replicate_succ]; rfl
    rw [er]
    have sR := same_new (o := .lst ((List.replicate (n - 2) z).map V.ref)) nR
    have s8 := ((sZ.trans s7).trans sY).trans sR
    refine w_cat (s8 _ _ hL) upd_same (by simp [sizeLine]; omega) fun B2 nB2 => ?_
    have sB2 := same_new (o := .lst ([V.ref h0, V.ref h1] ++ (List.replicate (n - 2) z).map V.ref)) nB2
    walk_at "go"
    refine mk_Medium fun M2 W2 H10 s10 nM nW oM hW => ?_
    walk_at "go"
    have s11 := ((s6.trans s8).trans sB2).trans s10
    have t11 := (s8.trans sB2).trans s10
    obtain ⟨kn, ⟨dD, oD⟩, _⟩ := hD.o
    refine st_Drive_medium T ⟨dD, s11 _ _ oD⟩ fun H12 oD12 k12 => ?_
    walk_at "go"
    have nonD : ∀ {r : Addr} {o : HO}, H10 r = some o → (∀ C dx v w, o ≠ .ins C dx (fl_Drive v w)) → H12 r = some o := fun e h => k12 _ _ e (by simpa using ne_of e (s11 _ _ oD) (h _ _ _ _))
    obtain ⟨S', ⟨dH, oH⟩, ⟨dS, oS'⟩⟩ := hD1'
    have oH12 : O_Head a H12 D1 (.int (1 : Nat)) (.ref S') (.int (1 : Nat)) (.int (0 : Nat)) := ⟨dH, nonD (t11 _ _ oH) (by intro C dx v w e; have := congrArg List.length (HO.ins.inj e).2.2; simp [fl_Head, fl_Drive] at this)⟩
    have oS12 : ShapeAt a H12 S' n j := ⟨dS, nonD (t11 _ _ oS') (by intro C dx v w e; have := congrArg List.length (HO.ins.inj e).2.2; simp [fl_Shape, fl_Drive] at this)⟩
    refine mk_Known oH12 fun k2 nw H13 s13 nk nn oK en => ?_
    walk_at "go"
    obtain ⟨dD12, oD12'⟩ := oD12
    refine st_Drive_known T ⟨dD12, s13 _ _ oD12'⟩ fun H14 oD14 k14 => ?_
    have nonD2 : ∀ {r : Addr} {o : HO}, H13 r = some o → (∀ C dx v w, o ≠ .ins C dx (fl_Drive v w)) → H14 r = some o := fun e h => k14 _ _ e (by simpa using ne_of e (s13 _ _ oD12') (h _ _ _ _))
    have nonD3 : ∀ {r : Addr} {o : HO}, H10 r = some o → (∀ C dx v w, o ≠ .ins C dx (fl_Drive v w)) → H14 r = some o := fun e h => nonD2 (s13 _ _ (nonD e h)) h
    walk_at "go"
    refine ⟨by show 1 ≤ sizeLine; decide, fun r nr => ?_⟩
    have sr := same_new (o := .lst [V.int 0]) nr
    have nlst : ∀ {xs : List V} C dx v w, HO.lst xs ≠ .ins C dx (fl_Drive v w) := by intro xs C dx v w e; cases e
    obtain ⟨dM, oM⟩ := oM
    obtain ⟨dK, oK⟩ := oK
    have hB14 : H14 B2 = some (.lst ((h0 :: h1 :: List.replicate (n - 2) z).map V.ref)) := nonD3 (s10 _ _ (by rw [upd_same]; rfl)) nlst
    have lb0 : LB H14 h0 (Fm08.Head.bytes ⟨0, n, j, 1, 0⟩) := nonD3 (t11 _ _ b0') nlst
    have lb1 : LB H14 h1 (Fm08.Head.bytes ⟨1, n, j, 1, 0⟩) := nonD3 (t11 _ _ b1') nlst
    have lbz : LB H14 z (Fm08.zeros Fm08.SIZE) := nonD3 (s10 _ _ (sB2 _ _ (sR _ _ (sY _ _ bz)))) nlst
    have M14 : MedAt a H14 M2 B2 W2 (Fm08.made n j).medium (Fm08.made n j).way := by
      refine ⟨⟨dM, nonD3 oM (by intro C dx v w e; exact fl_ne (HO.ins.inj e).2.2.symm)⟩, ⟨h0 :: h1 :: List.replicate (n - 2) z, hB14, lb0, lb1, Al.rep lbz _⟩, ⟨[], nonD3 hW nlst, trivial⟩, ?_, ?_, by simp [Fm08.made]⟩
      · exact (ne_of_none upd_same nW).symm
      · intro b hb
        simp only [Fm08.made, List.mem_append, List.mem_cons, List.not_mem_nil, or_false, List.mem_replicate] at hb
        rcases hb with (e | e) | e
        · rw [e]; exact head_isBlock _
        · rw [e]; exact head_isBlock _
        · rw [e.2]; exact zeros_block
    have ml : (Fm08.made n j).medium.length = n := by simp [Fm08.made]; omega
    have K14 : KnownAt a H14 k2 (Fm08.made n j).medium.length ⟨j, 1, 0, 0, 1, []⟩ := by
      rw [ml]
      obtain ⟨dH, oH12⟩ := oH12
      obtain ⟨dS, oS12⟩ := oS12
      refine ⟨D1, nw, S', 1, 0, ⟨dK, nonD2 oK (by intro C dx v w e; have := congrArg List.length (HO.ins.inj e).2.2; simp [fl_Known, fl_Drive] at this)⟩, ⟨dH, nonD2 (s13 _ _ oH12) (by intro C dx v w e; have := congrArg List.length (HO.ins.inj e).2.2; simp [fl_Head, fl_Drive] at this)⟩,
        ⟨dS, nonD2 (s13 _ _ oS12) (by intro C dx v w e; have := congrArg List.length (HO.ins.inj e).2.2; simp [fl_Shape, fl_Drive] at this)⟩, [], [], nonD2 en (by intro C dx v w e; cases e), trivial, List.Perm.refl _⟩
    have fr : Fr H H14 (DP p md B W) (DP p M2 B2 W2) := by
      have k : Keep [p] H H14 := ((Keep.of s11).trans k12).trans ((Keep.of s13).trans k14)
      refine ⟨k.mono (by simp [DP]), fun b hb => ?_⟩
      simp only [DP, List.mem_cons, List.not_mem_nil, or_false] at hb ⊢
      rcases hb with e | e | e | e
      · exact .inl (.inl e)
      · exact .inr (by rw [e]; exact ((s6.trans s8).trans sB2).free nM)
      · exact .inr (by rw [e]; exact (s6.trans s8).free nB2)
      · exact .inr (by rw [e]; exact ((s6.trans s8).trans sB2).free nW)
    exact q _ M2 B2 W2 r ⟨⟨_, oD14.mono sr, k2, rfl, K14.mono sr⟩, M14.mono sr⟩ upd_same (fr.trans (Fr.same _ sr)) (fr.back nr)
theorem ln_Drive_read (h : sp_Drive_read K a vs H Q E) : vs.length = 2 := by obtain ⟨p, md, B, W, d, k, rfl, _⟩ := h; rfl
theorem w_din {td ty : TE} (h : ty σ H fun y H1 => td σ H1 fun x H2 => ∃ a o, x = .ref a ∧ DGet H2 a y o ∧ Q (.bl o.isSome) H2) : tDIn ty td σ H Q := h
theorem pure_Drive_read (T : Tx K mg a) (h : sp_Drive_read K a vs H Q E) : t_Drive_read K a { nx := fun _ H' => Q .non H', rt := Q } (L2.start N_Drive_read vs) H := by
  obtain ⟨p, md, B, W, d, k, rfl, hD, ok, q⟩ := h
  unfold rdAns at q
  unfold t_Drive_read
  walk_at "go"
  cases hu : d.up with
  | none =>
    have es : Fm08.spec d (.read k) = (Fm08.only (-6), d) := by unfold Fm08.spec; rw [hu]
    rw [es] at q
    refine g_Drive_known T (hD.unknown hu) ?_
    walk_at "go"
    rw [non_non]
    refine w_tt ?_
    walk_at "go"
    refine ⟨by decide, fun r nr => ?_⟩
    exact q _ r (same_new nr) nr upd_same
  | some u =>
    obtain ⟨kk, oD, hK⟩ := hD.known hu
    have uo := ok.up u hu
    have sh := (Dm.shape_iff _ _).mp uo.sh
    obtain ⟨hd, nw, S, nm, pl, oK, oH, hS, hN⟩ := hK.ex
    have es : Fm08.spec d (.read k) = if Fm08.below k (Fm08.homes d.medium.length u.j) = true then ({ v := 0, out := Fm08.read d k.toNat }, d) else (Fm08.only (-2), d) := by unfold Fm08.spec; rw [hu]
    refine g_Drive_known T oD ?_
    walk_at "go"
    rw [ref_non]
    refine w_ff ?_
    walk_at "go"
    refine g_Drive_known T oD (g_Known_head T oK (g_Head_shape T oH ?_))
    walk_at "go"
    have bel : Fm08.below k (Fm08.homes d.medium.length u.j) = decide (0 ≤ k ∧ k < (d.medium.length : Int) - u.j - 2) := by
      unfold Fm08.below Fm08.homes
      by_cases h : 0 ≤ k ∧ k < (d.medium.length : Int) - u.j - 2
      · rw [decide_eq_true h]; simp only [Bool.and_eq_true, decide_eq_true_eq]; omega
      · rw [decide_eq_false h, Bool.eq_false_iff]; intro z; simp only [Bool.and_eq_true, decide_eq_true_eq] at z; omega
    rw [bel] at es
    have neg : ¬ (0 ≤ k ∧ k < (d.medium.length : Int) - u.j - 2) → ∀ r, H r = none → Q (.ref r) (upd H r (.lst [V.int (-2)])) := fun h r nr => by
      rw [decide_eq_false h, if_neg Bool.false_ne_true] at es
      rw [es] at q
      exact q _ r (same_new nr) nr upd_same
    refine w_dec (fun c1 => ?_) (fun c1 => ?_)
    · refine w_tt ?_
      walk_at "go"
      exact ⟨by decide, fun r nr => neg (by omega) r nr⟩
    walk_at "go"
    refine g_Shape_home_count T hS ?_
    walk_at "go"
    refine w_dec (fun c2 => ?_) (fun c2 => ?_)
    · walk_at "go"
      exact ⟨by decide, fun r nr => neg (by omega) r nr⟩
    rw [decide_eq_true (show 0 ≤ k ∧ k < (d.medium.length : Int) - u.j - 2 by omega), if_pos rfl] at es
    rw [es] at q
    obtain ⟨k, rfl⟩ : ∃ m : Nat, k = (m : Int) := ⟨k.toNat, by omega⟩
    rw [Int.toNat_natCast] at q
    have ans : ∀ {b : List Nat} {x z r : Addr} {H5 : Hp}, Fm08.read d k = b → Same H H5 → LB H5 x b → H5 z = some (.lst [V.int 0]) → b.length ≤ 1000 → rCat (V.ref z) (V.ref x) H5 Q := by
      intro b x z r H5 e s hb hz hl
      refine w_cat hz hb (by rw [il_len]; show 1 + b.length ≤ 16777216; omega) fun r nr => ?_
      refine q _ r (s.trans (same_new nr)) (s.free nr) ?_
      show upd _ _ _ _ = _
      rw [upd_same]
      show some (HO.lst ([V.int 0] ++ il b)) = some (HO.lst (List.map V.int (0 :: Fm08Neutral.ints (Fm08.read d k))))
      rw [e]
      simp [il, Fm08Neutral.ints]
    walk_at "go"
    refine w_din ?_
    walk_at "go"
    refine g_Drive_known T oD ?_
    walk_at "go"
    refine g_Known_newest T oK ?_
    obtain ⟨o, ho, hr⟩ := NewAt.get (k := k) hN uo.so
    refine ⟨nw, o, rfl, ho, ?_⟩
    walk_at "go"
    cases ef : u.over.find? fun x => x.1 == k with
    | some y =>
      rw [ef] at hr
      obtain ⟨x, rfl, hx⟩ := hr
      have yb := ((Dm.isBlock_iff _).mp (uo.ov y (List.mem_of_find?_eq_some ef)).2).1
      refine w_tt ?_
      walk_at "go"
      refine ⟨by decide, fun z nz => ?_⟩
      have sz := same_new (o := .lst [V.int 0]) nz
      walk_at "go"
      refine w_dget ?_
      walk_at "go"
      refine g_Drive_known T (oD.mono sz) ?_
      walk_at "go"
      refine g_Known_newest T (oK.mono sz) ?_
      walk_at "go"
      obtain ⟨o2, ho2, hr2⟩ := NewAt.get (k := k) (hN.mono sz) uo.so
      rw [ef] at hr2
      obtain ⟨x2, rfl, hx2⟩ := hr2
      refine ⟨nw, _, rfl, ho2, ?_⟩
      refine ans (r := 0) ?_ sz hx2 upd_same (by omega)
      unfold Fm08.read
      rw [hu]
      dsimp only
      rw [ef]
    | none =>
      rw [ef] at hr
      cases (hr : o = none)
      refine w_ff ?_
      walk_at "go"
      refine ⟨by decide, fun z nz => ?_⟩
      have sz := same_new (o := .lst [V.int 0]) nz
      walk_at "go"
      refine g_Drive_medium T (oD.mono sz) (g_Medium_blocks T (hD.m.o.mono sz) ?_)
      obtain ⟨dS, oS⟩ := hS.mono sz
      walk_at "go"
      refine m_Shape_block_of_home ⟨dS, oS⟩ ?_
      walk_at "go"
      refine ⟨S, d.medium.length, u.j, k, rfl, ⟨dS, oS⟩, ?_⟩
      obtain ⟨as, hB, hal⟩ := hD.m.b
      have hlt : 2 + u.j + k < d.medium.length := by omega
      obtain ⟨x, hx, hX⟩ := hal.get2 (show d.medium[2 + u.j + k]? = some (d.medium.getD (2 + u.j + k) []) by rw [List.getD_eq_getElem?_getD, List.getElem?_eq_getElem hlt]; rfl)
      refine w_ixL (.of (sz _ _ hB)) (at_of (show (u.j : Int) + 2 + (k : Int) = ((2 + u.j + k : Nat) : Int) by omega) (show (as.map V.ref)[2 + u.j + k]? = some (V.ref x) by simp [hx])) ?_
      have yb := ((Dm.isBlock_iff _).mp (Dm.blk_get ok.mok.blk hlt)).1
      refine ans (r := 0) ?_ sz (hX.mono sz) upd_same (by omega)
      unfold Fm08.read
      rw [hu]
      dsimp only
      rw [ef]
/-! ### the reader -/
theorem SqL.keep {H' : Hp} {F : List Addr} {c : Addr} {xs : List V} (k : Keep F H H') (n : c ∉ F) (h : SqL K H c xs) : SqL K H' c xs := by
  rcases h with h | h
  · rcases h with h | ⟨o, h⟩
    · exact .inl (.inl (k _ _ h n))
    · exact .inl (.inr ⟨o, k _ _ h n⟩)
  · exact .inr h
theorem rd_ne {p c : Addr} {v w : V} {xs : List V} (h : O_Reader a H p v w) (hc : Rd H c (.lst xs)) : c ≠ p := by
  obtain ⟨dx, e⟩ := h
  rcases hc with z | ⟨o, z⟩
  · exact ne_of z e (by intro e; cases e)
  · exact ne_of z e (by intro e; cases e)
theorem ln_Reader_init (h : sp_Reader_init K a vs H Q E) : vs.length = 2 := by obtain ⟨p, dx, c, rfl, _⟩ := h; rfl
theorem pure_Reader_init (T : Tx K mg a) (h : sp_Reader_init K a vs H Q E) : t_Reader_init K a { nx := fun _ H' => Q .non H', rt := Q } (L2.start N_Reader_init vs) H := by
  obtain ⟨p, dx, c, rfl, hp, q⟩ := h
  unfold t_Reader_init
  walk_at "go"
  refine ini_Reader_calls T hp fun H1 h1 k1 => ?_
  walk_at "go"
  exact ini_Reader_at T h1 fun H2 h2 k2 => q H2 ⟨dx, h2⟩ (k1.trans k2)
theorem ln_Reader_is_at_end (h : sp_Reader_is_at_end K a vs H Q E) : vs.length = 1 := by obtain ⟨p, c, i, ns, rfl, _⟩ := h; rfl
theorem pure_Reader_is_at_end (T : Tx K mg a) (h : sp_Reader_is_at_end K a vs H Q E) : t_Reader_is_at_end K a { nx := fun _ H' => Q .non H', rt := Q } (L2.start N_Reader_is_at_end vs) H := by
  obtain ⟨p, c, i, ns, rfl, hr, hc, q⟩ := h
  unfold t_Reader_is_at_end
  walk_at "go"
  refine g_Reader_at T hr ?_
  walk_at "go"
  refine g_Reader_calls T hr ?_
  walk_at "go"
  refine w_len hc ?_
  rw [List.length_map]
  refine w_eqI ?_
  rw [show decide ((i : Int) = (ns.length : Int)) = decide (i = ns.length) from decide_eq_decide.mpr (by omega)]
  exact q
end
end Dk
namespace Dk
open PySem PySem.Spec PyProof.Rows L2
local macro_rules | `(tactic| walk_at "s1") => `(tactic| with_reducible first
  | refine w_seq ?_ | refine w_asg ?_ | refine w_drop ?_ | refine w_ret ?_ | refine w_retN ?_ | refine w_next ?_ | refine w_if ?_ | refine w_c ?_ | refine w_op ?_ | refine w_un ?_
  | refine w_fld ?_ | refine w_sfld ?_ | refine w_meth ?_ | refine w_call ?_ | refine w_cons ?_ | refine w_nil ?_ | refine w_cb ?_ | refine w_gname ?_ | refine w_lst ?_ | refine w_tup ?_
  | refine w_sl ?_ | refine w_nopart ?_ | refine w_part ?_ | refine w_parti ?_ | refine w_bm ?_ | refine w_test ?_ | refine w_tB ?_ | refine w_not ?_ | refine w_and_t ?_ | refine w_or_t ?_ | refine w_andV ?_ | refine w_orV ?_
  | refine w_for ?_ | refine w_ilist ?_ | refine w_rng1 ?_ | refine w_rev ?_ | refine w_istr ?_ | refine w_istr2 ?_ | refine w_zip ?_ | refine w_enum ?_ | refine w_lc ?_ | refine w_break ?_ | refine w_cont ?_ | refine w_dnew ?_
  | refine w_make ?_ | refine w_bl ?_ | refine w_isN ?_ | refine w_notN ?_ | refine w_neg ?_
  | refine w_add ?_ | refine w_sub ?_ | refine w_lt ?_ | refine w_le ?_ | refine w_gt ?_ | refine w_ge ?_ | refine w_eqI ?_ | refine w_neI ?_)
local macro_rules | `(tactic| walk_at "sv") => `(tactic| ((with_reducible refine' w_var ?hh ?_); (case hh => exact rfl)))
local macro_rules | `(tactic| walk_at "st") => `(tactic| first | walk_at "s1" | walk_at "sv")
local macro_rules | `(tactic| walk_at "go") => `(tactic| repeat' walk_at "st")
local macro_rules | `(tactic| walk_at "s1x") => `(tactic| with_reducible first
  | refine w_seq ?_ | refine w_asg ?_ | refine w_drop ?_ | refine w_ret ?_ | refine w_retN ?_ | refine w_next ?_ | refine w_c ?_ | refine w_op ?_ | refine w_un ?_
  | refine w_fld ?_ | refine w_sfld ?_ | refine w_meth ?_ | refine w_call ?_ | refine w_cons ?_ | refine w_nil ?_ | refine w_cb ?_ | refine w_gname ?_ | refine w_lst ?_ | refine w_tup ?_
  | refine w_sl ?_ | refine w_nopart ?_ | refine w_part ?_ | refine w_parti ?_ | refine w_bm ?_ | refine w_test ?_ | refine w_tB ?_ | refine w_not ?_ | refine w_and_t ?_ | refine w_or_t ?_ | refine w_andV ?_ | refine w_orV ?_
  | refine w_for ?_ | refine w_ilist ?_ | refine w_rng1 ?_ | refine w_rev ?_ | refine w_istr ?_ | refine w_istr2 ?_ | refine w_zip ?_ | refine w_enum ?_ | refine w_lc ?_ | refine w_break ?_ | refine w_cont ?_ | refine w_dnew ?_
  | refine w_make ?_ | refine w_bl ?_ | refine w_isN ?_ | refine w_notN ?_ | refine w_neg ?_
  | refine w_add ?_ | refine w_sub ?_ | refine w_lt ?_ | refine w_le ?_ | refine w_gt ?_ | refine w_ge ?_ | refine w_eqI ?_ | refine w_neI ?_)
local macro_rules | `(tactic| walk_at "gx") => `(tactic| repeat' first | walk_at "s1x" | walk_at "sv")
section
variable {K : PySem.W.Frag} {mg : Str → Option Value} {a : Ad} {vs : List V} {H H0 H1 : Hp} {Q : VK} {E : XK} {σ : L2.St}
theorem SqL.keepR {H' : Hp} {p c : Addr} {v w : V} {xs : List V} (k : Keep [p] H H') (hr : O_Reader a H p v w) (h : SqL K H c xs) : SqL K H' c xs := by
  rcases h with h | h
  · exact SqL.keep (F := [p]) k (by simpa using rd_ne hr h) (.inl h)
  · exact .inr h
theorem ln_Reader_take (h : sp_Reader_take K a vs H Q E) : vs.length = 1 := by obtain ⟨p, c, i, ns, z, rfl, _⟩ := h; rfl
theorem pure_Reader_take (T : Tx K mg a) (h : sp_Reader_take K a vs H Q E) : t_Reader_take K a { nx := fun _ H' => Q .non H', rt := Q } (L2.start N_Reader_take vs) H := by
  obtain ⟨p, c, i, ns, z, rfl, hr, hc, hz, q⟩ := h
  unfold t_Reader_take
  walk_at "go"
  refine g_Reader_at T hr ?_
  walk_at "go"
  refine st_Reader_at T hr fun H1 h1 k1 => ?_
  walk_at "go"
  refine g_Reader_calls T h1 ?_
  walk_at "go"
  refine g_Reader_at T h1 ?_
  walk_at "go"
  refine w_ixL (SqL.keepR k1 hr hc) (at_of (show (i : Int) + 1 - 1 = ((i : Nat) : Int) by omega) (show (ns.map V.int)[i]? = some (V.int z) by simp [hz])) ?_
  refine q H1 ?_ k1
  show O_Reader a H1 p (.ref c) (.int ((i + 1 : Nat) : Int))
  rw [show ((i + 1 : Nat) : Int) = (i : Int) + 1 by omega]
  exact h1
theorem ln_Reader_take_row (h : sp_Reader_take_row K a vs H Q E) : vs.length = 1 := by obtain ⟨p, c, i, ns, k, rfl, _⟩ := h; rfl
theorem pure_Reader_take_row (T : Tx K mg a) (h : sp_Reader_take_row K a vs H Q E) : t_Reader_take_row K a { nx := fun _ H' => Q .non H', rt := Q } (L2.start N_Reader_take_row vs) H := by
  obtain ⟨p, c, i, ns, k, rfl, hr, hc, hz, hl, q⟩ := h
  unfold t_Reader_take_row
  walk_at "go"
  obtain ⟨dR, oR⟩ := hr
  refine m_Reader_take ⟨dR, oR⟩ ?_
  walk_at "go"
  refine ⟨p, c, i, ns, k, rfl, ⟨dR, oR⟩, hc, hz, fun H1 h1 k1 => ?_⟩
  walk_at "go"
  refine g_Reader_at T h1 ?_
  walk_at "go"
  refine st_Reader_at T h1 fun H2 h2 k2 => ?_
  have c2 := SqL.keepR k2 h1 (SqL.keepR k1 ⟨dR, oR⟩ hc)
  walk_at "go"
  refine g_Reader_calls T h2 ?_
  walk_at "go"
  refine g_Reader_at T h2 ?_
  walk_at "go"
  refine g_Reader_at T h2 ?_
  walk_at "go"
  refine w_slL c2 fun r nr => ?_
  have sr := same_new (o := .lst (cutV (ns.map V.int) (some (((i + 1 : Nat) : Int) + (k : Int) - (k : Int))) (some (((i + 1 : Nat) : Int) + (k : Int))))) nr
  refine q _ r ?_ ((k1.trans k2).trans (Keep.of sr)) ?_ ?_
  · refine O_Reader.mono sr ?_
    rw [show ((i + 1 + k : Nat) : Int) = ((i + 1 : Nat) : Int) + (k : Int) by omega]
    exact h2
  · cases e : H r with
    | none => rfl
    | some o =>
      by_cases h : r = p
      · obtain ⟨d2, e2⟩ := h2
        rw [h, e2] at nr; cases nr
      · rw [k2 _ _ (k1 _ _ e (by simpa using h)) (by simpa using h)] at nr; cases nr
  · show upd _ _ _ _ = _
    rw [upd_same, show ((i + 1 : Nat) : Int) + (k : Int) - (k : Int) = ((i + 1 : Nat) : Int) by omega, show ((i + 1 : Nat) : Int) + (k : Int) = ((i + 1 + k : Nat) : Int) by omega, cut_nat, List.map_take, List.map_drop, Nat.add_sub_cancel_left]
end
end Dk
namespace Dk
open PySem PySem.Spec PyProof.Rows L2
/-! ### the specification's disk stays sound -/
structure DiskIn (d : Fm08.Disk) : Prop where
  mok : Dm.Mok d.medium
  up : ∀ u, d.up = some u → UpOk d.medium.length u
  way : ∀ w ∈ d.way, w.block < d.medium.length ∧ Fm08.isBlock w.bytes = true
theorem DiskIn.ok {d : Fm08.Disk} (h : DiskIn d) (l : d.way.length ≤ 50000) : DiskOk d := ⟨h.mok, h.up, l⟩
theorem nothing_in : DiskIn Fm08.nothing := ⟨⟨.inl rfl, by simp [Fm08.nothing], by intro b hb; simp [Fm08.nothing] at hb⟩, by simp [Fm08.nothing], by simp [Fm08.nothing]⟩
theorem Mok.of_len {m m' : List Fm08.Bytes} (h : Dm.Mok m) (e : m'.length = m.length) (b : Dm.Blocks m') : Dm.Mok m' := by
  refine ⟨?_, by have := h.most; omega, b⟩
  rcases h.len with z | z
  · exact .inl (List.eq_nil_of_length_eq_zero (by rw [e, z]; rfl))
  · exact .inr (by omega)
theorem reached_in : ∀ (l : List Nat) (m : List Fm08.Bytes) (way : List Fm08.Write), Dm.Blocks m → (∀ w ∈ way, w.block < m.length ∧ Fm08.isBlock w.bytes = true) → Dm.Blocks (Fm08.reached m way l) ∧ (Fm08.reached m way l).length = m.length
  | [], _, _, h, _ => ⟨h, rfl⟩
  | x :: l, m, way, h, hw => by
    unfold Fm08.reached
    rw [List.foldl_cons]
    cases e : way[x / 1024]? with
    | none => exact reached_in l m way h hw
    | some w =>
      have win := hw w (List.mem_of_getElem? e)
      have ab := arrived_blk (k := min (x % 1024) Fm08.SIZE) h win.1 win.2
      have ih := reached_in l (Fm08.arrived m w (min (x % 1024) Fm08.SIZE)) way ab.1 (fun v hv => by rw [ab.2]; exact hw v hv)
      exact ⟨ih.1, ih.2.trans ab.2⟩
theorem fold_arr_in : ∀ (way : List Fm08.Write) (m : List Fm08.Bytes), Dm.Blocks m → (∀ w ∈ way, w.block < m.length ∧ Fm08.isBlock w.bytes = true) → Dm.Blocks (way.foldl (fun m w => Fm08.arrived m w Fm08.SIZE) m)
  | [], _, h, _ => h
  | w :: way, m, h, hw => by
    rw [List.foldl_cons]
    have win := hw w (by simp)
    have ab := arrived_blk (k := Fm08.SIZE) h win.1 win.2
    exact fold_arr_in way _ ab.1 (fun v hv => by rw [ab.2]; exact hw v (by simp [hv]))
theorem actM_in {n : Nat} {d : List Fm08.Bytes × List Fm08.Write} {c : Fm08.Act} (hn : d.1.length = n) (hb : Dm.Blocks d.1) (hw : ∀ w ∈ d.2, w.block < n ∧ Fm08.isBlock w.bytes = true) (hc : ActOk n c) : Dm.Blocks (actM d c).1 ∧ ∀ w ∈ (actM d c).2, w.block < n ∧ Fm08.isBlock w.bytes = true := by
  subst hn
  cases c with
  | write b x =>
    refine ⟨hb, fun w h => ?_⟩
    rcases List.mem_append.mp h with z | z
    · exact hw w z
    · rw [List.mem_singleton.mp z]; exact hc
  | barrier => exact ⟨fold_arr_in d.2 d.1 hb hw, by simp [actM]⟩
theorem fold_actM_in {n : Nat} : ∀ (l : List Fm08.Act) (d : List Fm08.Bytes × List Fm08.Write), d.1.length = n → Dm.Blocks d.1 → (∀ w ∈ d.2, w.block < n ∧ Fm08.isBlock w.bytes = true) → (∀ c ∈ l, ActOk n c) → Dm.Blocks (l.foldl actM d).1 ∧ ∀ w ∈ (l.foldl actM d).2, w.block < n ∧ Fm08.isBlock w.bytes = true
  | [], _, _, h, hw, _ => ⟨h, hw⟩
  | c :: l, d, hn, h, hw, hl => by
    rw [List.foldl_cons]
    have a := actM_in hn h hw (hl c (by simp))
    exact fold_actM_in l (actM d c) ((actM_len d c).1.trans hn) a.1 a.2 (fun c' hc => hl c' (by simp [hc]))
theorem perform_in {d : Fm08.Disk} {l : List Fm08.Act} (h : DiskIn d) (hl : ∀ c ∈ l, ActOk d.medium.length c) : DiskIn (Fm08.perform d l) ∧ (Fm08.perform d l).medium.length = d.medium.length := by
  rw [perform_eq]
  have e := (fold_actM_len l (d.medium, d.way)).1
  have a := fold_actM_in (n := d.medium.length) l (d.medium, d.way) rfl h.mok.blk h.way hl
  exact ⟨⟨Mok.of_len h.mok e a.1, fun u hu => by show UpOk (l.foldl actM (d.medium, d.way)).1.length u; rw [e]; exact h.up u hu, fun w hw => by show w.block < (l.foldl actM (d.medium, d.way)).1.length ∧ _; rw [e]; exact a.2 w hw⟩, e⟩
theorem after_in {d : Fm08.Disk} (h : DiskIn d) (l : d.way.length ≤ 50000) (o : Fm08.Op) : DiskIn (Fm08.after d o) := by
  unfold Fm08.after
  cases e : (Fm08.plan d o).2 with
  | none => exact h
  | some x =>
    have po := (plan_ok (h.ok l) o e).1
    have pi := perform_in h po.acts
    refine ⟨pi.1.mok, fun u hu => ?_, pi.1.way⟩
    cases hu
    show UpOk (Fm08.perform d x.1).medium.length x.2
    rw [pi.2]; exact po.up
theorem cut_in_ok {d : Fm08.Disk} (h : DiskIn d) (l : List Nat) : DiskIn (Fm08.cut d l) := by
  have r := reached_in l d.medium d.way h.mok.blk h.way
  exact ⟨Mok.of_len h.mok r.2 r.1, by simp [Fm08.cut], by simp [Fm08.cut]⟩
theorem cutIn_in {d : Fm08.Disk} (h : DiskIn d) (l : d.way.length ≤ 50000) (o : Fm08.Op) (n : Nat) (row : List Nat) : DiskIn (Fm08.cutIn d o n row) := by
  unfold Fm08.cutIn
  cases e : (Fm08.plan d o).2 with
  | none => exact cut_in_ok h row
  | some x =>
    have po := (plan_ok (h.ok l) o e).1
    exact cut_in_ok (perform_in h (fun c hc => po.acts c (List.mem_of_mem_take hc))).1 row
theorem made_in {n j : Nat} (h : Fm08.shapeOk n j = true) : DiskIn (Fm08.made n j) := by
  have sh := (Dm.shape_iff _ _).mp h
  have ml : (Fm08.made n j).medium.length = n := by simp [Fm08.made]; omega
  refine ⟨⟨.inr (by omega), by omega, fun b hb => ?_⟩, fun u hu => ?_, by simp [Fm08.made]⟩
  · simp only [Fm08.made, List.mem_append, List.mem_cons, List.not_mem_nil, or_false, List.mem_replicate] at hb
    rcases hb with (e | e) | e
    · rw [e]; exact head_isBlock _
    · rw [e]; exact head_isBlock _
    · rw [e.2]; exact zeros_block
  · cases hu
    rw [ml]
    exact ⟨h, by show 0 < j; omega, Nat.zero_le _, by simp [Dm.Sorted], by simp⟩
theorem load_in {b : Fm08.Bytes} (h : b.length % Fm08.SIZE = 0 ∧ 8 ≤ b.length / Fm08.SIZE ∧ b.length / Fm08.SIZE ≤ Fm08.LARGE) (hb : ∀ x ∈ b, x < 256) : DiskIn ⟨Fm08.blocksOf b, [], none⟩ := by
  unfold Fm08.LARGE Fm08.SIZE at h
  have ml : (Fm08.blocksOf b).length = b.length / 512 := by simp [Fm08.blocksOf, Fm08.SIZE]
  refine ⟨⟨.inr (by show 8 ≤ (Fm08.blocksOf b).length; omega), by show (Fm08.blocksOf b).length ≤ 4096; omega, fun x hx => ?_⟩, by simp, by simp⟩
  unfold Fm08.blocksOf Fm08.SIZE at hx
  obtain ⟨i, hi, e⟩ := List.mem_map.mp hx
  have hi := List.mem_range.mp hi
  rw [← e, Dm.isBlock_iff]
  refine ⟨?_, fun y hy => hb y (Dm.part_mem hy)⟩
  unfold Fm08.part
  rw [List.length_take, List.length_drop]
  omega
/-- how many writes a step may add -/
theorem ends_bar (l : List Fm08.Act) (d : List Fm08.Bytes × List Fm08.Write) : ((l ++ [Fm08.Act.barrier]).foldl actM d).2 = [] := by rw [List.foldl_append]; rfl
theorem settling_way {n : Nat} {u : Fm08.Up} (d : List Fm08.Bytes × List Fm08.Write) : ((Fm08.settling n u).1.foldl actM d).2.length ≤ d.2.length := by
  unfold Fm08.settling
  split
  · simp
  · have e : ([Fm08.Act.barrier] ++ ((u.over.map fun (x : Nat × Fm08.Bytes) => Fm08.Act.write (2 + u.j + x.1) x.2) ++ [Fm08.Act.barrier, Fm08.Act.write ((u.gen + 1) % 2) (Fm08.Head.bytes ⟨u.gen + 1, n, u.j, u.next, u.place⟩), Fm08.Act.barrier])) =
      ([Fm08.Act.barrier] ++ ((u.over.map fun (x : Nat × Fm08.Bytes) => Fm08.Act.write (2 + u.j + x.1) x.2) ++ [Fm08.Act.barrier, Fm08.Act.write ((u.gen + 1) % 2) (Fm08.Head.bytes ⟨u.gen + 1, n, u.j, u.next, u.place⟩)])) ++ [Fm08.Act.barrier] := by simp
    rw [e, ends_bar]
    exact Nat.zero_le _
theorem after_way {d : Fm08.Disk} (o : Fm08.Op) : (Fm08.after d o).way.length ≤ d.way.length + 31 := by
  unfold Fm08.after
  cases e : (Fm08.plan d o).2 with
  | none => simp
  | some x =>
    show (Fm08.perform d x.1).way.length ≤ _
    rw [perform_eq]
    show (x.1.foldl actM (d.medium, d.way)).2.length ≤ _
    cases o with
    | commit t =>
      cases hu : d.up with
      | none => unfold Fm08.plan at e; rw [hu] at e; cases e
      | some u =>
        rw [plan_commit d u t hu] at e
        unfold planC at e
        by_cases c1 : Fm08.txnOk (Fm08.homes d.medium.length u.j) t = false
        · rw [if_pos c1] at e; cases e
        have g := (Dm.txnOk_iff _ _).mp (show Fm08.txnOk (Fm08.homes d.medium.length u.j) t = true by simpa using c1)
        rw [if_neg c1] at e
        by_cases c2 : u.j < t.length + 1
        · rw [if_pos c2] at e; cases e
        rw [if_neg c2] at e
        cases e
        rw [List.foldl_append]
        have h1 := (fold_actM_len ((Fm08.pieces (if u.j < u.used + t.length + 1 then Fm08.settling d.medium.length u else ([], u)).2.next t).zipIdx.map fun (x : Fm08.Bytes × Nat) => Fm08.Act.write (Fm08.spot (if u.j < u.used + t.length + 1 then Fm08.settling d.medium.length u else ([], u)).2.j (if u.j < u.used + t.length + 1 then Fm08.settling d.medium.length u else ([], u)).2.place x.2) x.1) ((if u.j < u.used + t.length + 1 then Fm08.settling d.medium.length u else ([], u)).1.foldl actM (d.medium, d.way))).2
        have h2 : ((if u.j < u.used + t.length + 1 then Fm08.settling d.medium.length u else ([], u)).1.foldl actM (d.medium, d.way)).2.length ≤ d.way.length := by
          split
          · exact settling_way (d.medium, d.way)
          · simp
        rw [List.length_map, List.length_zipIdx] at h1
        have h3 : (Fm08.pieces (if u.j < u.used + t.length + 1 then Fm08.settling d.medium.length u else ([], u)).2.next t).length = t.length + 1 := by unfold Fm08.pieces; simp
        omega
    | flush =>
      cases hu : d.up with
      | none => unfold Fm08.plan at e; rw [hu] at e; cases e
      | some u =>
        unfold Fm08.plan at e
        rw [hu] at e
        cases e
        exact Nat.zero_le _
    | settle =>
      cases hu : d.up with
      | none => unfold Fm08.plan at e; rw [hu] at e; cases e
      | some u =>
        unfold Fm08.plan at e
        rw [hu] at e
        cases e
        have := settling_way (n := d.medium.length) (u := u) (d.medium, d.way)
        exact Nat.le_trans this (by show d.way.length ≤ d.way.length + 31; omega)
    | mend =>
      cases hu : d.up with
      | some u => unfold Fm08.plan at e; rw [hu] at e; cases e
      | none =>
        rw [plan_mend d hu] at e
        unfold planM at e
        cases eb : Fm08.best d.medium with
        | none => rw [eb] at e; cases e
        | some h =>
          rw [eb] at e
          cases e
          generalize Fm08.found d.medium h.j h.j h.next h.place = r
          have e : (((r.1.foldl Fm08.putAll []).map fun (x : Nat × Fm08.Bytes) => Fm08.Act.write (2 + h.j + x.1) x.2) ++ [Fm08.Act.barrier, Fm08.Act.write ((h.gen + 1) % 2) (Fm08.Head.bytes ⟨h.gen + 1, h.n, h.j, h.next + r.1.length + h.j, r.2⟩), Fm08.Act.barrier]) =
            (((r.1.foldl Fm08.putAll []).map fun (x : Nat × Fm08.Bytes) => Fm08.Act.write (2 + h.j + x.1) x.2) ++ [Fm08.Act.barrier, Fm08.Act.write ((h.gen + 1) % 2) (Fm08.Head.bytes ⟨h.gen + 1, h.n, h.j, h.next + r.1.length + h.j, r.2⟩)]) ++ [Fm08.Act.barrier] := by simp
          rw [e, ends_bar]
          exact Nat.zero_le _
end Dk
namespace Dk
open PySem PySem.Spec PyProof.Rows L2
/-! ### the calls' text: what stands from a place on -/
theorem drop_cons {ns : List Int} {i : Nat} {z : Int} {t : List Int} (h : ns.drop i = z :: t) : ns[i]? = some z ∧ t = ns.drop (i + 1) ∧ i < ns.length := by
  have h1 : i < ns.length := by
    by_cases c : i < ns.length
    · exact c
    · rw [List.drop_of_length_le (by omega)] at h; cases h
  rw [List.drop_eq_getElem_cons h1] at h
  obtain ⟨e1, e2⟩ := List.cons.inj h
  exact ⟨by rw [List.getElem?_eq_getElem h1, e1], e2.symm, h1⟩
theorem row_at {ns : List Int} {i : Nat} {x t : List Int} (h : PyFlat.row (ns.drop i) = some (x, t)) : ∃ k : Nat, ns[i]? = some (k : Int) ∧ i + 1 + k ≤ ns.length ∧ x = (ns.drop (i + 1)).take k ∧ t = ns.drop (i + 1 + k) := by
  cases e : ns.drop i with
  | nil => rw [e] at h; cases h
  | cons z r =>
    obtain ⟨h1, h2, h3⟩ := drop_cons e
    rw [e] at h
    have h : (if 0 ≤ z ∧ z.toNat ≤ r.length then some (r.take z.toNat, r.drop z.toNat) else none) = some (x, t) := h
    by_cases c : 0 ≤ z ∧ z.toNat ≤ r.length
    · rw [if_pos c] at h
      cases h
      refine ⟨z.toNat, by rw [h1]; congr 1; omega, ?_, by rw [h2], by rw [h2, List.drop_drop]⟩
      have := c.2
      rw [h2, List.length_drop] at this
      omega
    · rw [if_neg c] at h
      cases h
theorem rows_succ {ns : List Int} {i k : Nat} {xs : List (List Int)} {t : List Int} (h : PyFlat.rows (k + 1) (ns.drop i) = some (xs, t)) : ∃ (n : Nat) (ys : List (List Int)), ns[i]? = some (n : Int) ∧ i + 1 + n ≤ ns.length ∧ xs = (ns.drop (i + 1)).take n :: ys ∧ PyFlat.rows k (ns.drop (i + 1 + n)) = some (ys, t) := by
  unfold PyFlat.rows at h
  cases e : PyFlat.row (ns.drop i) with
  | none => rw [e] at h; cases h
  | some y =>
    obtain ⟨x, s⟩ := y
    rw [e] at h
    obtain ⟨n, h1, h2, h3, h4⟩ := row_at e
    dsimp only at h
    cases e2 : PyFlat.rows k s with
    | none => rw [e2] at h; cases h
    | some z =>
      obtain ⟨ys, u⟩ := z
      rw [e2] at h
      cases h
      exact ⟨n, ys, h1, h2, by rw [h3], by rw [← h4]; exact e2⟩
theorem rows_zero {r t : List Int} {xs : List (List Int)} (h : PyFlat.rows 0 r = some (xs, t)) : xs = [] ∧ t = r := by
  unfold PyFlat.rows at h
  cases h
  exact ⟨rfl, rfl⟩
/-- a call's head: its number, its whole numbers -/
theorem call_at {ns : List Int} {i n k : Nat} {p : Int} {c : List (List Int)} {t : List Int} (hp : ns[i]? = some p) (hs : PyFm08.shape p = some (n, k)) (h : PyFlat.call PyFm08.shape (ns.drop i) = some (c, t)) :
    i + 1 + n ≤ ns.length ∧ ∃ xs, c = (p :: (ns.drop (i + 1)).take n) :: xs ∧ PyFlat.rows k (ns.drop (i + 1 + n)) = some (xs, t) := by
  have h1 : i < ns.length := (List.getElem?_eq_some_iff.mp hp).1
  have e : ns.drop i = p :: ns.drop (i + 1) := by
    rw [List.drop_eq_getElem_cons h1]
    congr 1
    rw [List.getElem?_eq_getElem h1] at hp
    exact Option.some.inj hp
  rw [e] at h
  unfold PyFlat.call at h
  dsimp only at h
  rw [hs] at h
  dsimp only at h
  split at h
  · cases h
  · rename_i c2
    rw [List.length_drop] at c2
    rw [List.drop_drop] at h
    cases e2 : PyFlat.rows k (ns.drop (i + 1 + n)) with
    | none => rw [e2] at h; cases h
    | some y =>
      obtain ⟨xs, u⟩ := y
      rw [e2] at h
      cases h
      exact ⟨by omega, xs, rfl, rfl⟩
theorem at_of_lt {ns : List Int} {i : Nat} (h : i < ns.length) : ∃ z, ns[i]? = some z := ⟨ns[i], List.getElem?_eq_getElem h⟩
theorem take_one {ns : List Int} {i : Nat} {z : Int} (h : ns[i]? = some z) : (ns.drop i).take 1 = [z] := by
  have h1 := (List.getElem?_eq_some_iff.mp h).1
  rw [List.drop_eq_getElem_cons h1]
  rw [List.getElem?_eq_getElem h1] at h
  simp [Option.some.inj h]
theorem take_two {ns : List Int} {i : Nat} {z w : Int} (h : ns[i]? = some z) (h2 : ns[i + 1]? = some w) : (ns.drop i).take 2 = [z, w] := by
  have h1 := (List.getElem?_eq_some_iff.mp h).1
  rw [List.drop_eq_getElem_cons h1, List.take_succ_cons, take_one h2]
  rw [List.getElem?_eq_getElem h1] at h
  rw [Option.some.inj h]
theorem c00 {ns : List Int} {i : Nat} {p : Int} {c : List (List Int)} {t : List Int} (hp : ns[i]? = some p) (hs : PyFm08.shape p = some (0, 0)) (h : PyFlat.call PyFm08.shape (ns.drop i) = some (c, t)) : c = [[p]] ∧ t = ns.drop (i + 1) := by
  obtain ⟨h1, xs, e, hr⟩ := call_at hp hs h
  obtain ⟨e2, e3⟩ := rows_zero hr
  exact ⟨by rw [e, e2]; rfl, e3⟩
theorem c10 {ns : List Int} {i : Nat} {p : Int} {c : List (List Int)} {t : List Int} (hp : ns[i]? = some p) (hs : PyFm08.shape p = some (1, 0)) (h : PyFlat.call PyFm08.shape (ns.drop i) = some (c, t)) : ∃ x, ns[i + 1]? = some x ∧ c = [[p, x]] ∧ t = ns.drop (i + 2) := by
  obtain ⟨h1, xs, e, hr⟩ := call_at hp hs h
  obtain ⟨e2, e3⟩ := rows_zero hr
  obtain ⟨x, hx⟩ := at_of_lt (show i + 1 < ns.length by omega)
  exact ⟨x, hx, by rw [e, e2, take_one hx], e3⟩
theorem c20 {ns : List Int} {i : Nat} {p : Int} {c : List (List Int)} {t : List Int} (hp : ns[i]? = some p) (hs : PyFm08.shape p = some (2, 0)) (h : PyFlat.call PyFm08.shape (ns.drop i) = some (c, t)) : ∃ x y, ns[i + 1]? = some x ∧ ns[i + 2]? = some y ∧ c = [[p, x, y]] ∧ t = ns.drop (i + 3) := by
  obtain ⟨h1, xs, e, hr⟩ := call_at hp hs h
  obtain ⟨e2, e3⟩ := rows_zero hr
  obtain ⟨x, hx⟩ := at_of_lt (show i + 1 < ns.length by omega)
  obtain ⟨y, hy⟩ := at_of_lt (show i + 1 + 1 < ns.length by omega)
  exact ⟨x, y, hx, hy, by rw [e, e2, take_two hx hy], e3⟩
theorem c01 {ns : List Int} {i : Nat} {p : Int} {c : List (List Int)} {t : List Int} (hp : ns[i]? = some p) (hs : PyFm08.shape p = some (0, 1)) (h : PyFlat.call PyFm08.shape (ns.drop i) = some (c, t)) : ∃ k : Nat, ns[i + 1]? = some (k : Int) ∧ i + 2 + k ≤ ns.length ∧ c = [[p], (ns.drop (i + 2)).take k] ∧ t = ns.drop (i + 2 + k) := by
  obtain ⟨h1, xs, e, hr⟩ := call_at hp hs h
  obtain ⟨k, ys, q1, q2, q3, q4⟩ := rows_succ hr
  obtain ⟨e2, e3⟩ := rows_zero q4
  exact ⟨k, q1, q2, by rw [e, q3, e2]; rfl, e3⟩
theorem c02 {ns : List Int} {i : Nat} {p : Int} {c : List (List Int)} {t : List Int} (hp : ns[i]? = some p) (hs : PyFm08.shape p = some (0, 2)) (h : PyFlat.call PyFm08.shape (ns.drop i) = some (c, t)) : ∃ k l : Nat, ns[i + 1]? = some (k : Int) ∧ i + 2 + k ≤ ns.length ∧ ns[i + 2 + k]? = some (l : Int) ∧ i + 3 + k + l ≤ ns.length ∧
    c = [[p], (ns.drop (i + 2)).take k, (ns.drop (i + 3 + k)).take l] ∧ t = ns.drop (i + 3 + k + l) := by
  obtain ⟨h1, xs, e, hr⟩ := call_at hp hs h
  obtain ⟨k, ys, q1, q2, q3, q4⟩ := rows_succ hr
  obtain ⟨l, zs, r1, r2, r3, r4⟩ := rows_succ q4
  obtain ⟨e2, e3⟩ := rows_zero r4
  have n1 : i + 1 + 0 + 1 + k = i + 2 + k := by omega
  have n2 : i + 1 + 0 + 1 + k + 1 = i + 3 + k := by omega
  rw [n1] at r1 r2
  refine ⟨k, l, q1, by omega, r1, by omega, ?_, ?_⟩
  · rw [e, q3, r3, e2, n2]; rfl
  · rw [e3]; congr 1; omega
theorem c12 {ns : List Int} {i : Nat} {p : Int} {c : List (List Int)} {t : List Int} (hp : ns[i]? = some p) (hs : PyFm08.shape p = some (1, 2)) (h : PyFlat.call PyFm08.shape (ns.drop i) = some (c, t)) : ∃ (x : Int) (k l : Nat), ns[i + 1]? = some x ∧ ns[i + 2]? = some (k : Int) ∧ i + 3 + k ≤ ns.length ∧ ns[i + 3 + k]? = some (l : Int) ∧ i + 4 + k + l ≤ ns.length ∧
    c = [[p, x], (ns.drop (i + 3)).take k, (ns.drop (i + 4 + k)).take l] ∧ t = ns.drop (i + 4 + k + l) := by
  obtain ⟨h1, xs, e, hr⟩ := call_at hp hs h
  obtain ⟨k, ys, q1, q2, q3, q4⟩ := rows_succ hr
  obtain ⟨l, zs, r1, r2, r3, r4⟩ := rows_succ q4
  obtain ⟨e2, e3⟩ := rows_zero r4
  obtain ⟨x, hx⟩ := at_of_lt (show i + 1 < ns.length by omega)
  have n1 : i + 1 + 1 + 1 + k = i + 3 + k := by omega
  have n2 : i + 1 + 1 + 1 + k + 1 = i + 4 + k := by omega
  rw [n1] at r1 r2
  refine ⟨x, k, l, hx, q1, by omega, r1, by omega, ?_, ?_⟩
  · rw [e, q3, r3, e2, n2, take_one hx]
  · rw [e3]; congr 1; omega
theorem c23 {ns : List Int} {i : Nat} {p : Int} {c : List (List Int)} {t : List Int} (hp : ns[i]? = some p) (hs : PyFm08.shape p = some (2, 3)) (h : PyFlat.call PyFm08.shape (ns.drop i) = some (c, t)) : ∃ (x y : Int) (k l m : Nat), ns[i + 1]? = some x ∧ ns[i + 2]? = some y ∧ ns[i + 3]? = some (k : Int) ∧ i + 4 + k ≤ ns.length ∧ ns[i + 4 + k]? = some (l : Int) ∧ i + 5 + k + l ≤ ns.length ∧
    ns[i + 5 + k + l]? = some (m : Int) ∧ i + 6 + k + l + m ≤ ns.length ∧ c = [[p, x, y], (ns.drop (i + 4)).take k, (ns.drop (i + 5 + k)).take l, (ns.drop (i + 6 + k + l)).take m] ∧ t = ns.drop (i + 6 + k + l + m) := by
  obtain ⟨h1, xs, e, hr⟩ := call_at hp hs h
  obtain ⟨k, ys, q1, q2, q3, q4⟩ := rows_succ hr
  obtain ⟨l, zs, r1, r2, r3, r4⟩ := rows_succ q4
  obtain ⟨m, us, s1, s2, s3, s4⟩ := rows_succ r4
  obtain ⟨e2, e3⟩ := rows_zero s4
  obtain ⟨x, hx⟩ := at_of_lt (show i + 1 < ns.length by omega)
  obtain ⟨y, hy⟩ := at_of_lt (show i + 1 + 1 < ns.length by omega)
  have n1 : i + 1 + 2 + 1 + k = i + 4 + k := by omega
  have n2 : i + 4 + k + 1 = i + 5 + k := by omega
  have n3 : i + 5 + k + l + 1 = i + 6 + k + l := by omega
  rw [n1] at r1 r2 r3 s1 s2 s3 e3
  rw [n2] at s1 s2 s3 r3 e3
  rw [n3] at s3
  refine ⟨x, y, k, l, m, hx, hy, q1, by omega, r1, by omega, s1, by omega, ?_, ?_⟩
  · rw [e, q3, r3, s3, e2, take_two hx hy]
  · rw [e3]; congr 1; omega
end Dk
namespace Dk
open PySem PySem.Spec PyProof.Rows L2
def t_call_make (K : PySem.W.Frag) (a : Ad) : TS :=
  (tSeq (tAsg (tMeth a.c_Reader "take" (sp_Reader_take K a) [] E0 (tVar 1) tNil) (gName 2))
    (tSeq (tAsg (tMeth a.c_Reader "take" (sp_Reader_take K a) [] E0 (tVar 1) tNil) (gName 3))
    (tRet (tMeth a.c_Drive "make" (sp_Drive_make K a) [] E0 (tVar 0) (tCons (tVar 2) (tCons (tVar 3) tNil))))))
def t_call_read (K : PySem.W.Frag) (a : Ad) : TS :=
  (tRet (tMeth a.c_Drive "read" (sp_Drive_read K a) [] E0 (tVar 0) (tCons (tMeth a.c_Reader "take" (sp_Reader_take K a) [] E0 (tVar 1) tNil) tNil)))
def t_call_commit (K : PySem.W.Frag) (a : Ad) : TS :=
  (tSeq (tAsg (tMeth a.c_Reader "take_row" (sp_Reader_take_row K a) [] E0 (tVar 1) tNil) (gName 2))
    (tSeq (tAsg (tMeth a.c_Reader "take_row" (sp_Reader_take_row K a) [] E0 (tVar 1) tNil) (gName 3))
    (tRet (tMeth a.c_Drive "operate" (sp_Drive_operate K a) [] E0 (tVar 0) (tCons (tC (V.int 0)) (tCons (tVar 2) (tCons (tVar 3) tNil)))))))
def t_call_flush (K : PySem.W.Frag) (a : Ad) : TS :=
  (tRet (tMeth a.c_Drive "operate" (sp_Drive_operate K a) [] E0 (tVar 0) (tCons (tC (V.int 1)) (tCons (tLst tNil) (tCons (tLst tNil) tNil)))))
def t_call_settle (K : PySem.W.Frag) (a : Ad) : TS :=
  (tRet (tMeth a.c_Drive "operate" (sp_Drive_operate K a) [] E0 (tVar 0) (tCons (tC (V.int 2)) (tCons (tLst tNil) (tCons (tLst tNil) tNil)))))
def t_call_mend (K : PySem.W.Frag) (a : Ad) : TS :=
  (tRet (tMeth a.c_Drive "operate" (sp_Drive_operate K a) [] E0 (tVar 0) (tCons (tC (V.int 3)) (tCons (tLst tNil) (tCons (tLst tNil) tNil)))))
def t_call_cut (K : PySem.W.Frag) (a : Ad) : TS :=
  (tRet (tMeth a.c_Drive "cut" (sp_Drive_cut K a) [] E0 (tVar 0) (tCons (tMeth a.c_Reader "take_row" (sp_Reader_take_row K a) [] E0 (tVar 1) tNil) tNil)))
def t_call_cut_in (K : PySem.W.Frag) (a : Ad) : TS :=
  (tSeq (tAsg (tMeth a.c_Reader "take" (sp_Reader_take K a) [] E0 (tVar 1) tNil) (gName 2))
    (tSeq (tAsg (tMeth a.c_Reader "take" (sp_Reader_take K a) [] E0 (tVar 1) tNil) (gName 3))
    (tSeq (tAsg (tMeth a.c_Reader "take_row" (sp_Reader_take_row K a) [] E0 (tVar 1) tNil) (gName 4))
    (tSeq (tAsg (tMeth a.c_Reader "take_row" (sp_Reader_take_row K a) [] E0 (tVar 1) tNil) (gName 5))
    (tSeq (tAsg (tMeth a.c_Reader "take_row" (sp_Reader_take_row K a) [] E0 (tVar 1) tNil) (gName 6))
    (tRet (tMeth a.c_Drive "cut_in" (sp_Drive_cut_in K a) [] E0 (tVar 0) (tCons (tVar 2) (tCons (tMeth a.c_Drive "operation" (sp_Drive_operation K a) [] E0 (tVar 0) (tCons (tVar 3) (tCons (tVar 5) (tCons (tVar 6) tNil)))) (tCons (tVar 4) tNil))))))))))
def t_call_arrive (K : PySem.W.Frag) (a : Ad) : TS :=
  (tRet (tMeth a.c_Drive "arrive" (sp_Drive_arrive K a) [] E0 (tVar 0) (tCons (tMeth a.c_Reader "take_row" (sp_Reader_take_row K a) [] E0 (tVar 1) tNil) tNil)))
def t_call_told (K : PySem.W.Frag) (a : Ad) : TS :=
  (tRet (tMeth a.c_Drive "told" (sp_Drive_told K a) [] E0 (tVar 0) tNil))
def t_call_block (K : PySem.W.Frag) (a : Ad) : TS :=
  (tRet (tMeth a.c_Drive "block" (sp_Drive_block K a) [] E0 (tVar 0) (tCons (tMeth a.c_Reader "take" (sp_Reader_take K a) [] E0 (tVar 1) tNil) tNil)))
def t_call_look (K : PySem.W.Frag) (a : Ad) : TS :=
  (tRet (tMeth a.c_Drive "look" (sp_Drive_look K a) [] E0 (tVar 0) tNil))
def t_call_save (K : PySem.W.Frag) (a : Ad) : TS :=
  (tRet (tMeth a.c_Drive "save" (sp_Drive_save K a) [] E0 (tVar 0) tNil))
def t_call_load (K : PySem.W.Frag) (a : Ad) : TS :=
  (tRet (tMeth a.c_Drive "load" (sp_Drive_load K a) [] E0 (tVar 0) (tCons (tMeth a.c_Reader "take_row" (sp_Reader_take_row K a) [] E0 (tVar 1) tNil) tNil)))
def t_call_plan (K : PySem.W.Frag) (a : Ad) : TS :=
  (tSeq (tAsg (tMeth a.c_Reader "take" (sp_Reader_take K a) [] E0 (tVar 1) tNil) (gName 2))
    (tSeq (tAsg (tMeth a.c_Reader "take_row" (sp_Reader_take_row K a) [] E0 (tVar 1) tNil) (gName 3))
    (tSeq (tAsg (tMeth a.c_Reader "take_row" (sp_Reader_take_row K a) [] E0 (tVar 1) tNil) (gName 4))
    (tRet (tMeth a.c_Drive "plan" (sp_Drive_plan K a) [] E0 (tVar 0) (tCons (tVar 2) (tCons (tVar 3) (tCons (tVar 4) tNil))))))))
def t_call_sum (K : PySem.W.Frag) (a : Ad) : TS :=
  (tRet (tLst (tCons (tCall (sp_sum_of K a) [] E0 (tCons (tMeth a.c_Reader "take_row" (sp_Reader_take_row K a) [] E0 (tVar 1) tNil) tNil)) tNil)))
end Dk
namespace Dk
open PySem PySem.Spec PyProof.Rows L2
local macro_rules | `(tactic| walk_at "s1") => `(tactic| with_reducible first
  | refine w_seq ?_ | refine w_asg ?_ | refine w_drop ?_ | refine w_ret ?_ | refine w_retN ?_ | refine w_next ?_ | refine w_if ?_ | refine w_c ?_ | refine w_op ?_ | refine w_un ?_
  | refine w_fld ?_ | refine w_sfld ?_ | refine w_meth ?_ | refine w_call ?_ | refine w_cons ?_ | refine w_nil ?_ | refine w_cb ?_ | refine w_gname ?_ | refine w_lst ?_ | refine w_tup ?_
  | refine w_sl ?_ | refine w_nopart ?_ | refine w_part ?_ | refine w_parti ?_ | refine w_bm ?_ | refine w_test ?_ | refine w_tB ?_ | refine w_not ?_ | refine w_and_t ?_ | refine w_or_t ?_ | refine w_andV ?_ | refine w_orV ?_
  | refine w_for ?_ | refine w_ilist ?_ | refine w_rng1 ?_ | refine w_rev ?_ | refine w_istr ?_ | refine w_istr2 ?_ | refine w_zip ?_ | refine w_enum ?_ | refine w_lc ?_ | refine w_break ?_ | refine w_cont ?_ | refine w_dnew ?_
  | refine w_make ?_ | refine w_bl ?_ | refine w_isN ?_ | refine w_notN ?_ | refine w_neg ?_
  | refine w_add ?_ | refine w_sub ?_ | refine w_lt ?_ | refine w_le ?_ | refine w_gt ?_ | refine w_ge ?_ | refine w_eqI ?_ | refine w_neI ?_)
local macro_rules | `(tactic| walk_at "sv") => `(tactic| ((with_reducible refine' w_var ?hh ?_); (case hh => exact rfl)))
local macro_rules | `(tactic| walk_at "st") => `(tactic| first | walk_at "s1" | walk_at "sv")
local macro_rules | `(tactic| walk_at "go") => `(tactic| repeat' walk_at "st")
local macro_rules | `(tactic| walk_at "s1x") => `(tactic| with_reducible first
  | refine w_seq ?_ | refine w_asg ?_ | refine w_drop ?_ | refine w_ret ?_ | refine w_retN ?_ | refine w_next ?_ | refine w_c ?_ | refine w_op ?_ | refine w_un ?_
  | refine w_fld ?_ | refine w_sfld ?_ | refine w_meth ?_ | refine w_call ?_ | refine w_cons ?_ | refine w_nil ?_ | refine w_cb ?_ | refine w_gname ?_ | refine w_lst ?_ | refine w_tup ?_
  | refine w_sl ?_ | refine w_nopart ?_ | refine w_part ?_ | refine w_parti ?_ | refine w_bm ?_ | refine w_test ?_ | refine w_tB ?_ | refine w_not ?_ | refine w_and_t ?_ | refine w_or_t ?_ | refine w_andV ?_ | refine w_orV ?_
  | refine w_for ?_ | refine w_ilist ?_ | refine w_rng1 ?_ | refine w_rev ?_ | refine w_istr ?_ | refine w_istr2 ?_ | refine w_zip ?_ | refine w_enum ?_ | refine w_lc ?_ | refine w_break ?_ | refine w_cont ?_ | refine w_dnew ?_
  | refine w_make ?_ | refine w_bl ?_ | refine w_isN ?_ | refine w_notN ?_ | refine w_neg ?_
  | refine w_add ?_ | refine w_sub ?_ | refine w_lt ?_ | refine w_le ?_ | refine w_gt ?_ | refine w_ge ?_ | refine w_eqI ?_ | refine w_neI ?_)
local macro_rules | `(tactic| walk_at "gx") => `(tactic| repeat' first | walk_at "s1x" | walk_at "sv")
/-! ### the calls: what each promises -/
def spCall (K : PySem.W.Frag) (a : Ad) (p : Nat) : Sp := fun vs H Q _ => ∃ dr md B W d rd c i ns cl t, vs = [.ref dr, .ref rd] ∧ DriveAt a H dr md B W d ∧ DiskIn d ∧ d.way.length ≤ 40000 ∧ RdAt a H rd c (i + 1) ∧ SqL K H c (List.map V.int ns) ∧ ns[i]? = some (p : Int) ∧
  PyFlat.call PyFm08.shape (ns.drop i) = some (cl, t) ∧ Fm08Neutral.asked1 cl = true ∧
  ∀ H' md' B' W' r i', t = ns.drop i' → i' ≤ ns.length → DriveAt a H' dr md' B' W' (Fm08Neutral.step d cl).1 → LI H' r (Fm08Neutral.step d cl).2 → RdAt a H' rd c i' → Fr H H' (rd :: DP dr md B W) (rd :: DP dr md' B' W') → (H r = none ∨ r ∈ rd :: DP dr md B W) → Q (.ref r) H'
theorem ln_call {K : PySem.W.Frag} {a : Ad} {p : Nat} {vs : List V} {H : Hp} {Q : VK} {E : XK} (h : spCall K a p vs H Q E) : vs.length = 2 := by
  obtain ⟨dr, md, B, W, d, rd, c, i, ns, cl, t, rfl, _⟩ := h; rfl
section
variable {K : PySem.W.Frag} {mg : Str → Option Value} {a : Ad} {vs : List V} {H H0 H1 : Hp} {Q : VK} {E : XK} {σ : L2.St}
theorem flR_ne {v w x y : V} : fl_Reader v w ≠ fl_Medium x y := by
  intro e
  have h2 : ("calls" : Str) = ("blocks" : Str) := congrArg Prod.fst (List.cons.inj e).1
  exact absurd h2 (by decide +kernel)
theorem flRD_ne {v w x y : V} : fl_Reader v w ≠ fl_Drive x y := by
  intro e
  have h2 : ("calls" : Str) = ("medium" : Str) := congrArg Prod.fst (List.cons.inj e).1
  exact absurd h2 (by decide +kernel)
/-- the reader goes on: the drive stands -/
theorem DriveAt.keepR {H' : Hp} {rd c p md B W : Addr} {i : Nat} {d : Fm08.Disk} (k : Keep [rd] H H') (hr : RdAt a H rd c i) (ok : DiskIn d) (h : DriveAt a H p md B W d) : DriveAt a H' p md B W d := by
  obtain ⟨dR, oR⟩ := hr
  obtain ⟨⟨kn, ⟨dx, oD⟩, hk⟩, M⟩ := h
  have hF : AllF H [rd] := fun q hq => by rw [List.mem_singleton.mp hq]; exact ⟨_, oR, .inr (.inr (.inr ⟨_, _, _, _, rfl⟩))⟩
  refine ⟨⟨kn, ⟨dx, k _ _ oD (by simpa using ne_of oD oR (by intro e; exact flRD_ne (HO.ins.inj e).2.2.symm))⟩, ?_⟩, MedAt.keep1 k oR (by intro xs e; cases e) (by intro xs e; cases e) (by intro C dx v w e; exact flR_ne (HO.ins.inj e).2.2) M⟩
  cases hu : d.up with
  | none => rw [hu] at hk; exact hk
  | some u =>
    rw [hu] at hk
    obtain ⟨kk, e, hK⟩ := hk
    exact ⟨kk, e, hK.nf k hF (over_ne (ok.up u hu))⟩
theorem rd_out {rd c p md B W : Addr} {i : Nat} {d : Fm08.Disk} (hr : RdAt a H rd c i) (h : DriveAt a H p md B W d) : rd ∉ DP p md B W := by
  obtain ⟨dR, oR⟩ := hr
  obtain ⟨⟨kn, ⟨dx, oD⟩, hk⟩, M⟩ := h
  obtain ⟨dm, om⟩ := M.o
  obtain ⟨as, hB, _⟩ := M.b
  obtain ⟨ws, hW, _⟩ := M.w
  simp only [DP, List.mem_cons, List.not_mem_nil, or_false, not_or]
  exact ⟨ne_of oR oD (by intro e; exact flRD_ne (HO.ins.inj e).2.2), ne_of oR om (by intro e; exact flR_ne (HO.ins.inj e).2.2), ne_of oR hB (by intro e; cases e), ne_of oR hW (by intro e; cases e)⟩
theorem Fr.cons {H' : Hp} {F F' : List Addr} {x : Addr} (f : Fr H H' F F') : Fr H H' (x :: F) (x :: F') :=
  ⟨f.k.mono fun y m => List.mem_cons_of_mem _ m, fun b m => (List.mem_cons.mp m).elim (fun e => .inl (by rw [e]; exact List.mem_cons_self)) fun m => (f.n b m).imp (List.mem_cons_of_mem _) id⟩
theorem fr_r {H' : Hp} {x : Addr} {F : List Addr} (k : Keep [x] H H') : Fr H H' (x :: F) (x :: F) := ⟨k.mono (by simp), fun _ m => .inl m⟩
theorem RdAt.keep {H' : Hp} {rd c : Addr} {i : Nat} {F : List Addr} (k : Keep F H H') (n : rd ∉ F) (h : RdAt a H rd c i) : RdAt a H' rd c i := h.elim fun dx e => ⟨dx, k _ _ e n⟩
theorem nats_il {x : List Int} (h : ∀ z ∈ x, 0 ≤ z) : x.map V.int = il (Fm08Neutral.nats x) := by
  unfold il Fm08Neutral.nats
  rw [List.map_map]
  exact List.map_congr_left fun z hz => by show V.int z = V.int ((z.toNat : Nat) : Int); rw [Int.toNat_of_nonneg (h z hz)]
theorem LI.lb {r : Addr} {x : List Int} (h : LI H r x) (hx : ∀ z ∈ x, 0 ≤ z) : LB H r (Fm08Neutral.nats x) := by
  show H r = _
  rw [← nats_il hx]; exact h
theorem LI.keep {H' : Hp} {rd c : Addr} {i : Nat} {r : Addr} {x : List Int} (k : Keep [rd] H H') (hr : RdAt a H rd c i) (h : LI H r x) : LI H' r x := by
  obtain ⟨dR, oR⟩ := hr
  exact k _ _ h (by simpa using ne_of h oR (by intro e; cases e))
theorem nat_all {x : List Int} {b : Nat} (h : x.all (fun z => Fm08Neutral.natural z b) = true) : ∀ z ∈ x, 0 ≤ z ∧ z < 2 ^ b := fun z hz => by
  have := List.all_eq_true.mp h z hz
  unfold Fm08Neutral.natural at this
  simpa using this
theorem back_r {H' : Hp} {rd r : Addr} {F : List Addr} (k : Keep [rd] H H') (h : H' r = none ∨ r ∈ F) : H r = none ∨ r ∈ rd :: F := by
  rcases h with z | z
  · by_cases e : r = rd
    · exact .inr (by rw [e]; exact List.mem_cons_self)
    · refine .inl ?_
      cases e2 : H r with
      | none => rfl
      | some o => rw [k _ _ e2 (by simpa using e)] at z; cases z
  · exact .inr (List.mem_cons_of_mem _ z)
theorem step_only {d : Fm08.Disk} {cl : Fm08Neutral.Call} {x : Fm08.Call} {z : Int} {d' : Fm08.Disk} (h : Fm08Neutral.callOf cl = some x) (e : Fm08.spec d x = (Fm08.only z, d')) : Fm08Neutral.step d cl = (d', [z]) := by
  unfold Fm08Neutral.step
  rw [h]
  dsimp only
  rw [e]
  unfold Fm08.only Fm08Neutral.ints
  simp
theorem pure_call_make (T : Tx K mg a) (h : spCall K a 0 vs H Q E) : t_call_make K a { nx := fun _ H' => Q .non H', rt := Q } (L2.start N_call_make vs) H := by
  obtain ⟨dr, md, B, W, d, rd, c, i, ns, cl, t, rfl, hD, ok, hw, hr, hc, hp, hcl, hask, q⟩ := h
  obtain ⟨n, j, hn, hj, rfl, rfl⟩ := c20 hp rfl hcl
  obtain ⟨dR, oR⟩ := hr
  unfold t_call_make
  walk_at "go"
  refine m_Reader_take ⟨dR, oR⟩ ?_
  walk_at "go"
  refine ⟨rd, c, i + 1, ns, n, rfl, ⟨dR, oR⟩, hc, hn, fun H1 r1 k1 => ?_⟩
  have hc1 := SqL.keepR k1 ⟨dR, oR⟩ hc
  have hD1 := hD.keepR k1 ⟨dR, oR⟩ ok
  obtain ⟨dR1, oR1⟩ := r1
  walk_at "go"
  refine m_Reader_take ⟨dR1, oR1⟩ ?_
  walk_at "go"
  refine ⟨rd, c, i + 2, ns, j, rfl, ⟨dR1, oR1⟩, hc1, hj, fun H2 r2 k2 => ?_⟩
  have hD2 := hD1.keepR k2 ⟨dR1, oR1⟩ ok
  obtain ⟨kn, ⟨dD, oD⟩, _⟩ := hD2.o
  walk_at "go"
  refine m_Drive_make ⟨dD, oD⟩ ?_
  walk_at "go"
  have k12 : Keep [rd] H H2 := k1.trans k2
  refine ⟨dr, md, B, W, d, n, j, rfl, hD2, fun H3 md' B' W' r D3 l3 f3 n3 => ?_⟩
  have es : Fm08Neutral.step d [[((0 : Nat) : Int), n, j]] = ((Fm08.spec d (.make n j)).2, [(Fm08.spec d (.make n j)).1.v]) := by
    have e : Fm08.spec d (.make n j) = (Fm08.only (Fm08.spec d (.make n j)).1.v, (Fm08.spec d (.make n j)).2) := by
      show (if (decide (0 ≤ n) && (decide (0 ≤ j) && Fm08.shapeOk n.toNat j.toNat)) = true then (Fm08.only 0, Fm08.made n.toNat j.toNat) else (Fm08.only (-2), d)) = _
      by_cases c : (decide (0 ≤ n) && (decide (0 ≤ j) && Fm08.shapeOk n.toNat j.toNat)) = true
      · simp only [Fm08.spec, c, if_true]; rfl
      · simp only [Fm08.spec, c]; rfl
    exact step_only rfl e
  rw [es] at q
  have ro := rd_out r2 hD2
  refine q H3 md' B' W' r (i + 3) rfl ?_ D3 l3 (r2.keep f3.k ro) ((fr_r k12).trans f3.cons) (back_r k12 n3)
  have := (List.getElem?_eq_some_iff.mp hj).1
  omega
theorem pure_call_read (T : Tx K mg a) (h : spCall K a 1 vs H Q E) : t_call_read K a { nx := fun _ H' => Q .non H', rt := Q } (L2.start N_call_read vs) H := by
  obtain ⟨dr, md, B, W, d, rd, c, i, ns, cl, t, rfl, hD, ok, hw, hr, hc, hp, hcl, hask, q⟩ := h
  obtain ⟨k, hk, rfl, rfl⟩ := c10 hp rfl hcl
  obtain ⟨dR, oR⟩ := hr
  obtain ⟨kn, ⟨dD, oD⟩, _⟩ := hD.o
  unfold t_call_read
  walk_at "go"
  refine m_Drive_read ⟨dD, oD⟩ ?_
  walk_at "go"
  refine m_Reader_take ⟨dR, oR⟩ ?_
  walk_at "go"
  refine ⟨rd, c, i + 1, ns, k, rfl, ⟨dR, oR⟩, hc, hk, fun H1 r1 k1 => ?_⟩
  have hD1 := hD.keepR k1 ⟨dR, oR⟩ ok
  walk_at "go"
  refine ⟨dr, md, B, W, d, k, rfl, hD1, ok.ok (by omega), fun H2 r s2 nr l2 => ?_⟩
  have es : Fm08Neutral.step d [[((1 : Nat) : Int), k]] = (d, rdAns d k) := by
    have e : (Fm08.spec d (.read k)).2 = d := by
      unfold Fm08.spec
      cases d.up with
      | none => rfl
      | some u => dsimp only; split <;> rfl
    show ((Fm08.spec d (.read k)).2, _) = _
    rw [e]; rfl
  rw [es] at q
  refine q H2 md B W r (i + 2) rfl ?_ (hD1.mono s2) l2 (O_Reader.mono s2 r1) ((fr_r k1).trans (Fr.same _ s2)) (back_r k1 (.inl nr))
  have := (List.getElem?_eq_some_iff.mp hk).1
  omega
end
end Dk
namespace Dk
open PySem PySem.Spec PyProof.Rows L2
local macro_rules | `(tactic| walk_at "s1") => `(tactic| with_reducible first
  | refine w_seq ?_ | refine w_asg ?_ | refine w_drop ?_ | refine w_ret ?_ | refine w_retN ?_ | refine w_next ?_ | refine w_if ?_ | refine w_c ?_ | refine w_op ?_ | refine w_un ?_
  | refine w_fld ?_ | refine w_sfld ?_ | refine w_meth ?_ | refine w_call ?_ | refine w_cons ?_ | refine w_nil ?_ | refine w_cb ?_ | refine w_gname ?_ | refine w_lst ?_ | refine w_tup ?_
  | refine w_sl ?_ | refine w_nopart ?_ | refine w_part ?_ | refine w_parti ?_ | refine w_bm ?_ | refine w_test ?_ | refine w_tB ?_ | refine w_not ?_ | refine w_and_t ?_ | refine w_or_t ?_ | refine w_andV ?_ | refine w_orV ?_
  | refine w_for ?_ | refine w_ilist ?_ | refine w_rng1 ?_ | refine w_rev ?_ | refine w_istr ?_ | refine w_istr2 ?_ | refine w_zip ?_ | refine w_enum ?_ | refine w_lc ?_ | refine w_break ?_ | refine w_cont ?_ | refine w_dnew ?_
  | refine w_make ?_ | refine w_bl ?_ | refine w_isN ?_ | refine w_notN ?_ | refine w_neg ?_
  | refine w_add ?_ | refine w_sub ?_ | refine w_lt ?_ | refine w_le ?_ | refine w_gt ?_ | refine w_ge ?_ | refine w_eqI ?_ | refine w_neI ?_)
local macro_rules | `(tactic| walk_at "sv") => `(tactic| ((with_reducible refine' w_var ?hh ?_); (case hh => exact rfl)))
local macro_rules | `(tactic| walk_at "st") => `(tactic| first | walk_at "s1" | walk_at "sv")
local macro_rules | `(tactic| walk_at "go") => `(tactic| repeat' walk_at "st")
local macro_rules | `(tactic| walk_at "s1x") => `(tactic| with_reducible first
  | refine w_seq ?_ | refine w_asg ?_ | refine w_drop ?_ | refine w_ret ?_ | refine w_retN ?_ | refine w_next ?_ | refine w_c ?_ | refine w_op ?_ | refine w_un ?_
  | refine w_fld ?_ | refine w_sfld ?_ | refine w_meth ?_ | refine w_call ?_ | refine w_cons ?_ | refine w_nil ?_ | refine w_cb ?_ | refine w_gname ?_ | refine w_lst ?_ | refine w_tup ?_
  | refine w_sl ?_ | refine w_nopart ?_ | refine w_part ?_ | refine w_parti ?_ | refine w_bm ?_ | refine w_test ?_ | refine w_tB ?_ | refine w_not ?_ | refine w_and_t ?_ | refine w_or_t ?_ | refine w_andV ?_ | refine w_orV ?_
  | refine w_for ?_ | refine w_ilist ?_ | refine w_rng1 ?_ | refine w_rev ?_ | refine w_istr ?_ | refine w_istr2 ?_ | refine w_zip ?_ | refine w_enum ?_ | refine w_lc ?_ | refine w_break ?_ | refine w_cont ?_ | refine w_dnew ?_
  | refine w_make ?_ | refine w_bl ?_ | refine w_isN ?_ | refine w_notN ?_ | refine w_neg ?_
  | refine w_add ?_ | refine w_sub ?_ | refine w_lt ?_ | refine w_le ?_ | refine w_gt ?_ | refine w_ge ?_ | refine w_eqI ?_ | refine w_neI ?_)
local macro_rules | `(tactic| walk_at "gx") => `(tactic| repeat' first | walk_at "s1x" | walk_at "sv")
section
variable {K : PySem.W.Frag} {mg : Str → Option Value} {a : Ad} {vs : List V} {H H0 H1 : Hp} {Q : VK} {E : XK} {σ : L2.St}
theorem nats_len (l : List Int) : (Fm08Neutral.nats l).length = l.length := by simp [Fm08Neutral.nats]
theorem nats_lt {l : List Int} {b : Nat} (h : ∀ z ∈ l, 0 ≤ z ∧ z < 2 ^ b) : ∀ x ∈ Fm08Neutral.nats l, x < 2 ^ b := fun x hx => by
  obtain ⟨z, hz, e⟩ := List.mem_map.mp hx
  have := h z hz
  have e3 : ((2 ^ b : Nat) : Int) = (2 : Int) ^ b := by norm_cast
  rw [← e3] at this
  omega
theorem spec_run (d : Fm08.Disk) (o : Fm08.Op) : Fm08.spec d (.run o) = (Fm08.only (Fm08.plan d o).1, Fm08.after d o) := rfl
/-- a list that the call made is none of the drive's -/
theorem new_out {p md B W r : Addr} {d : Fm08.Disk} (h : DriveAt a H p md B W d) (n : H r = none) : r ∉ DP p md B W := fun m => h.there r m n
theorem op_in {r1 r2 : Addr} {ho bl : List Int} (h1 : LI H r1 ho) (h2 : LI H r2 bl) (a1 : ho.all (fun z => Fm08Neutral.natural z 31) = true) (a2 : ho.length ≤ 100) (a3 : bl.all (fun z => Fm08Neutral.natural z 8) = true) (a4 : bl.length = 512 * ho.length) :
    OpIn H r1 r2 (Fm08Neutral.nats ho) (Fm08Neutral.nats bl) := by
  have n1 := nat_all a1
  have n2 := nat_all a3
  refine ⟨h1.lb fun z hz => (n1 z hz).1, h2.lb fun z hz => (n2 z hz).1, by rw [nats_len]; omega, by rw [nats_len, nats_len]; exact a4, nats_lt (b := 8) n2⟩
theorem txn_eq (ho bl : List Int) : Fm08Neutral.txnOf ho bl = txnOf (Fm08Neutral.nats ho) (Fm08Neutral.nats bl) := rfl
theorem pure_call_commit (T : Tx K mg a) (h : spCall K a 2 vs H Q E) : t_call_commit K a { nx := fun _ H' => Q .non H', rt := Q } (L2.start N_call_commit vs) H := by
  obtain ⟨dr, md, B, W, d, rd, c, i, ns, cl, t, rfl, hD, ok, hw, hr, hc, hp, hcl, hask, q⟩ := h
  obtain ⟨k, l, hk, hk2, hl, hl2, rfl, rfl⟩ := c02 hp rfl hcl
  have ask : ((((ns.drop (i + 2)).take k).all (fun z => Fm08Neutral.natural z 31) && decide (((ns.drop (i + 2)).take k).length ≤ 100)) && (((ns.drop (i + 3 + k)).take l).all (fun z => Fm08Neutral.natural z 8) && decide (((ns.drop (i + 3 + k)).take l).length = 512 * ((ns.drop (i + 2)).take k).length))) = true := hask
  simp only [Bool.and_eq_true, decide_eq_true_eq] at ask
  obtain ⟨⟨a1, a2⟩, a3, a4⟩ := ask
  obtain ⟨dR, oR⟩ := hr
  unfold t_call_commit
  walk_at "go"
  refine m_Reader_take_row ⟨dR, oR⟩ ?_
  walk_at "go"
  refine ⟨rd, c, i + 1, ns, k, rfl, ⟨dR, oR⟩, hc, hk, by omega, fun H1 r1 R1 k1 n1 l1 => ?_⟩
  have hc1 := SqL.keepR k1 ⟨dR, oR⟩ hc
  have hD1 := hD.keepR k1 ⟨dR, oR⟩ ok
  rw [show i + 1 + 1 + k = i + 2 + k by omega] at R1
  obtain ⟨dR1, oR1⟩ := R1
  walk_at "go"
  refine m_Reader_take_row ⟨dR1, oR1⟩ ?_
  walk_at "go"
  refine ⟨rd, c, i + 2 + k, ns, l, rfl, ⟨dR1, oR1⟩, hc1, hl, by omega, fun H2 r2 R2 k2 n2 l2 => ?_⟩
  have hD2 := hD1.keepR k2 ⟨dR1, oR1⟩ ok
  have l1' := l1.keep k2 ⟨dR1, oR1⟩
  rw [show i + 2 + k + 1 = i + 3 + k by omega] at l2
  rw [show i + 2 + k + 1 + l = i + 3 + k + l by omega] at R2
  obtain ⟨kn, ⟨dD, oD⟩, _⟩ := hD2.o
  walk_at "go"
  refine m_Drive_operate ⟨dD, oD⟩ ?_
  walk_at "go"
  have k12 : Keep [rd] H H2 := k1.trans k2
  refine ⟨dr, md, B, W, d, 0, r1, r2, _, _, rfl, hD2, ok.ok (by omega), by omega, op_in l1' l2 a1 a2 a3 a4, fun H3 W' r D3 l3 f3 n3 => ?_⟩
  have es := step_only (cl := [[((2 : Nat) : Int)], (ns.drop (i + 2)).take k, (ns.drop (i + 3 + k)).take l]) rfl (spec_run d (.commit (Fm08Neutral.txnOf ((ns.drop (i + 2)).take k) ((ns.drop (i + 3 + k)).take l))))
  rw [es] at q
  exact q H3 md B W' r (i + 3 + k + l) rfl hl2 D3 l3 (R2.keep f3.k (rd_out R2 hD2)) ((fr_r k12).trans f3.cons) (back_r k12 n3)
theorem LB.nil {p : Addr} : LB (upd H p (.lst [])) p [] := upd_same
/-- flush, settle, mend: an operation without homes -/
theorem op_call (T : Tx K mg a) {kind : Nat} {o : Fm08.Op} {dr md B W rd c : Addr} {d : Fm08.Disk} {i : Nat} {ns : List Int} {p : Nat} (hk : kind ≤ 3) (ho : opN kind [] [] = o) (hcal : Fm08Neutral.callOf [[(p : Int)]] = some (.run o)) (hD : DriveAt a H dr md B W d) (ok : DiskIn d) (hw : d.way.length ≤ 40000) (hr : RdAt a H rd c (i + 1)) (hp : ns[i]? = some (p : Int))
    (q : ∀ H' md' B' W' r i', ns.drop (i + 1) = ns.drop i' → i' ≤ ns.length → DriveAt a H' dr md' B' W' (Fm08Neutral.step d [[(p : Int)]]).1 → LI H' r (Fm08Neutral.step d [[(p : Int)]]).2 → RdAt a H' rd c i' → Fr H H' (rd :: DP dr md B W) (rd :: DP dr md' B' W') → (H r = none ∨ r ∈ rd :: DP dr md B W) → Q (.ref r) H') :
    (tRet (tMeth a.c_Drive "operate" (sp_Drive_operate K a) [] E0 (tVar 0) (tCons (tC (V.int (kind : Int))) (tCons (tLst tNil) (tCons (tLst tNil) tNil))))) { nx := fun _ H' => Q .non H', rt := Q } [some (V.ref dr), some (V.ref rd)] H := by
  obtain ⟨kn, ⟨dD, oD⟩, _⟩ := hD.o
  walk_at "go"
  refine m_Drive_operate ⟨dD, oD⟩ ?_
  walk_at "go"
  refine ⟨by decide, fun r1 n1 => ?_⟩
  have s1 := same_new (o := .lst []) n1
  walk_at "go"
  refine ⟨by decide, fun r2 n2 => ?_⟩
  have s2 := same_new (o := .lst []) n2
  walk_at "go"
  refine ⟨dr, md, B, W, d, kind, r1, r2, [], [], rfl, (hD.mono s1).mono s2, ok.ok (by omega), hk, ⟨LB.nil.mono s2, LB.nil, by simp, by simp, by simp⟩, fun H3 W' r D3 l3 f3 n3 => ?_⟩
  rw [ho] at D3 l3
  have es := step_only (d := d) hcal (spec_run d o)
  rw [es] at q
  have R2 := O_Reader.mono (s1.trans s2) hr
  refine q H3 md B W' r (i + 1) rfl ?_ D3 l3 (RdAt.keep f3.k (rd_out R2 ((hD.mono s1).mono s2)) R2) ((Fr.same _ (s1.trans s2)).trans f3.cons) ?_
  · have := (List.getElem?_eq_some_iff.mp hp).1; omega
  · rcases n3 with z | z
    · exact .inl ((s1.trans s2).free z)
    · exact .inr (List.mem_cons_of_mem _ z)
theorem pure_call_flush (T : Tx K mg a) (h : spCall K a 3 vs H Q E) : t_call_flush K a { nx := fun _ H' => Q .non H', rt := Q } (L2.start N_call_flush vs) H := by
  obtain ⟨dr, md, B, W, d, rd, c, i, ns, cl, t, rfl, hD, ok, hw, hr, hc, hp, hcl, hask, q⟩ := h
  obtain ⟨rfl, rfl⟩ := c00 hp rfl hcl
  exact op_call T (kind := 1) (p := 3) (by omega) rfl rfl hD ok hw hr hp q
theorem pure_call_settle (T : Tx K mg a) (h : spCall K a 4 vs H Q E) : t_call_settle K a { nx := fun _ H' => Q .non H', rt := Q } (L2.start N_call_settle vs) H := by
  obtain ⟨dr, md, B, W, d, rd, c, i, ns, cl, t, rfl, hD, ok, hw, hr, hc, hp, hcl, hask, q⟩ := h
  obtain ⟨rfl, rfl⟩ := c00 hp rfl hcl
  exact op_call T (kind := 2) (p := 4) (by omega) rfl rfl hD ok hw hr hp q
theorem pure_call_mend (T : Tx K mg a) (h : spCall K a 5 vs H Q E) : t_call_mend K a { nx := fun _ H' => Q .non H', rt := Q } (L2.start N_call_mend vs) H := by
  obtain ⟨dr, md, B, W, d, rd, c, i, ns, cl, t, rfl, hD, ok, hw, hr, hc, hp, hcl, hask, q⟩ := h
  obtain ⟨rfl, rfl⟩ := c00 hp rfl hcl
  exact op_call T (kind := 3) (p := 5) (by omega) rfl rfl hD ok hw hr hp q
theorem pure_call_cut (T : Tx K mg a) (h : spCall K a 6 vs H Q E) : t_call_cut K a { nx := fun _ H' => Q .non H', rt := Q } (L2.start N_call_cut vs) H := by
  obtain ⟨dr, md, B, W, d, rd, c, i, ns, cl, t, rfl, hD, ok, hw, hr, hc, hp, hcl, hask, q⟩ := h
  obtain ⟨k, hk, hk2, rfl, rfl⟩ := c01 hp rfl hcl
  have ask : (((ns.drop (i + 2)).take k).all (fun z => Fm08Neutral.natural z 31) && decide (((ns.drop (i + 2)).take k).length ≤ 4096)) = true := hask
  simp only [Bool.and_eq_true, decide_eq_true_eq] at ask
  have n1 := nat_all ask.1
  obtain ⟨dR, oR⟩ := hr
  obtain ⟨kn, ⟨dD, oD⟩, _⟩ := hD.o
  unfold t_call_cut
  walk_at "go"
  refine m_Drive_cut ⟨dD, oD⟩ ?_
  walk_at "go"
  refine m_Reader_take_row ⟨dR, oR⟩ ?_
  walk_at "go"
  refine ⟨rd, c, i + 1, ns, k, rfl, ⟨dR, oR⟩, hc, hk, by omega, fun H1 r1 R1 k1 nr1 l1 => ?_⟩
  have hD1 := hD.keepR k1 ⟨dR, oR⟩ ok
  rw [show i + 1 + 1 + k = i + 2 + k by omega] at R1
  walk_at "go"
  refine ⟨dr, md, B, W, d, r1, _, rfl, hD1, l1.lb fun z hz => (n1 z hz).1, fun e => new_out hD nr1 (by rw [e]; simp [DP]), fun H2 W' r D2 l2 f2 n2 => ?_⟩
  have es := step_only (cl := [[((6 : Nat) : Int)], (ns.drop (i + 2)).take k]) (x := .cut (Fm08Neutral.nats ((ns.drop (i + 2)).take k))) (d := d) (z := 0) rfl rfl
  rw [es] at q
  exact q H2 md B W' r (i + 2 + k) rfl hk2 D2 l2 (R1.keep f2.k (rd_out R1 hD1)) ((fr_r k1).trans f2.cons) (back_r k1 n2)
theorem pure_call_cut_in (T : Tx K mg a) (h : spCall K a 7 vs H Q E) : t_call_cut_in K a { nx := fun _ H' => Q .non H', rt := Q } (L2.start N_call_cut_in vs) H := by
  obtain ⟨dr, md, B, W, d, rd, c, i, ns, cl, t, rfl, hD, ok, hw, hr, hc, hp, hcl, hask, q⟩ := h
  obtain ⟨x, y, k, l, m, hx, hy, hk, hk2, hl, hl2, hm, hm2, rfl, rfl⟩ := c23 hp rfl hcl
  have ask : (Fm08Neutral.natural x 31 && (Fm08Neutral.natural y 2 && ((((ns.drop (i + 4)).take k).all (fun z => Fm08Neutral.natural z 31) && decide (((ns.drop (i + 4)).take k).length ≤ 4096)) && (((((ns.drop (i + 5 + k)).take l).all (fun z => Fm08Neutral.natural z 31) && decide (((ns.drop (i + 5 + k)).take l).length ≤ 100)) &&
    (((ns.drop (i + 6 + k + l)).take m).all (fun z => Fm08Neutral.natural z 8) && decide (((ns.drop (i + 6 + k + l)).take m).length = 512 * ((ns.drop (i + 5 + k)).take l).length))) && ((y == 0 || ((ns.drop (i + 5 + k)).take l).isEmpty)))))) = true := hask
  simp only [Bool.and_eq_true, decide_eq_true_eq] at ask
  obtain ⟨ax, ay, ⟨b1, b2⟩, ⟨⟨a1, a2⟩, a3, a4⟩, a5⟩ := ask
  have nx : 0 ≤ x := by unfold Fm08Neutral.natural at ax; simp at ax; exact ax.1
  have ny : 0 ≤ y ∧ y < 4 := by unfold Fm08Neutral.natural at ay; simp at ay; exact ⟨ay.1, by have := ay.2; omega⟩
  have n1 := nat_all b1
  obtain ⟨dR, oR⟩ := hr
  unfold t_call_cut_in
  walk_at "go"
  refine m_Reader_take ⟨dR, oR⟩ ?_
  walk_at "go"
  refine ⟨rd, c, i + 1, ns, x, rfl, ⟨dR, oR⟩, hc, hx, fun H1 R1 k1 => ?_⟩
  have hc1 := SqL.keepR k1 ⟨dR, oR⟩ hc
  have hD1 := hD.keepR k1 ⟨dR, oR⟩ ok
  obtain ⟨dR1, oR1⟩ := R1
  walk_at "go"
  refine m_Reader_take ⟨dR1, oR1⟩ ?_
  walk_at "go"
  refine ⟨rd, c, i + 2, ns, y, rfl, ⟨dR1, oR1⟩, hc1, hy, fun H2 R2 k2 => ?_⟩
  have hc2 := SqL.keepR k2 ⟨dR1, oR1⟩ hc1
  have hD2 := hD1.keepR k2 ⟨dR1, oR1⟩ ok
  obtain ⟨dR2, oR2⟩ := R2
  walk_at "go"
  refine m_Reader_take_row ⟨dR2, oR2⟩ ?_
  walk_at "go"
  refine ⟨rd, c, i + 3, ns, k, rfl, ⟨dR2, oR2⟩, hc2, hk, by omega, fun H3 r3 R3 k3 n3 l3 => ?_⟩
  have hc3 := SqL.keepR k3 ⟨dR2, oR2⟩ hc2
  have hD3 := hD2.keepR k3 ⟨dR2, oR2⟩ ok
  rw [show i + 3 + 1 + k = i + 4 + k by omega] at R3
  have r3out := new_out hD2 n3
  obtain ⟨dR3, oR3⟩ := R3
  walk_at "go"
  refine m_Reader_take_row ⟨dR3, oR3⟩ ?_
  walk_at "go"
  refine ⟨rd, c, i + 4 + k, ns, l, rfl, ⟨dR3, oR3⟩, hc3, hl, by omega, fun H4 r4 R4 k4 n4 l4 => ?_⟩
  have hc4 := SqL.keepR k4 ⟨dR3, oR3⟩ hc3
  have hD4 := hD3.keepR k4 ⟨dR3, oR3⟩ ok
  have l3' := l3.keep k4 ⟨dR3, oR3⟩
  rw [show i + 4 + k + 1 + l = i + 5 + k + l by omega] at R4
  rw [show i + 4 + k + 1 = i + 5 + k by omega] at l4
  obtain ⟨dR4, oR4⟩ := R4
  walk_at "go"
  refine m_Reader_take_row ⟨dR4, oR4⟩ ?_
  walk_at "go"
  refine ⟨rd, c, i + 5 + k + l, ns, m, rfl, ⟨dR4, oR4⟩, hc4, hm, by omega, fun H5 r5 R5 k5 n5 l5 => ?_⟩
  have hD5 := hD4.keepR k5 ⟨dR4, oR4⟩ ok
  have l3'' := l3'.keep k5 ⟨dR4, oR4⟩
  have l4' := l4.keep k5 ⟨dR4, oR4⟩
  rw [show i + 5 + k + l + 1 + m = i + 6 + k + l + m by omega] at R5
  rw [show i + 5 + k + l + 1 = i + 6 + k + l by omega] at l5
  have k15 : Keep [rd] H H5 := (((k1.trans k2).trans k3).trans k4).trans k5
  obtain ⟨kn, ⟨dD, oD⟩, _⟩ := hD5.o
  walk_at "go"
  refine m_Drive_cut_in ⟨dD, oD⟩ ?_
  walk_at "go"
  refine m_Drive_operation ⟨dD, oD⟩ ?_
  walk_at "go"
  have ey : y = ((y.toNat : Nat) : Int) := by omega
  have ex : x = ((x.toNat : Nat) : Int) := by omega
  refine ⟨dr, md, B, W, d, y.toNat, r4, r5, _, _, by rw [← ey]; rfl, hD5, ok.ok (by omega), by omega, op_in l4' l5 a1 a2 a3 a4, fun H6 o s6 no hO => ?_⟩
  have eo : opN y.toNat (Fm08Neutral.nats ((ns.drop (i + 5 + k)).take l)) (Fm08Neutral.nats ((ns.drop (i + 6 + k + l)).take m)) = Fm08Neutral.opOf y ((ns.drop (i + 5 + k)).take l) ((ns.drop (i + 6 + k + l)).take m) := by
    unfold opN Fm08Neutral.opOf
    rw [txn_eq]
    have : y = 0 ∨ y = 1 ∨ y = 2 ∨ y = 3 := by omega
    rcases this with z | z | z | z <;> subst z <;> rfl
  rw [eo] at hO
  walk_at "go"
  refine ⟨dr, md, B, W, d, o, H5, r3, _, _, x.toNat, by rw [← ex]; rfl, hD5.mono s6, ok.ok (by omega), (l3''.lb fun z hz => (n1 z hz).1).mono s6, r3out, hO, hD5.there, fun H7 W' r D7 l7 f7 n7 => ?_⟩
  have es := step_only (cl := [[((7 : Nat) : Int), x, y], (ns.drop (i + 4)).take k, (ns.drop (i + 5 + k)).take l, (ns.drop (i + 6 + k + l)).take m]) (x := .cutIn (Fm08Neutral.opOf y ((ns.drop (i + 5 + k)).take l) ((ns.drop (i + 6 + k + l)).take m)) x.toNat (Fm08Neutral.nats ((ns.drop (i + 4)).take k))) (d := d) (z := 0) rfl rfl
  rw [es] at q
  have R6 : RdAt a H6 rd c (i + 6 + k + l + m) := O_Reader.mono s6 R5
  refine q H7 md B W' r (i + 6 + k + l + m) rfl hm2 D7 l7 (R6.keep f7.k (rd_out R6 (hD5.mono s6))) (((fr_r k15).trans (Fr.same _ s6)).trans f7.cons) (back_r k15 ?_)
  rcases n7 with z | z
  · exact .inl (s6.free z)
  · exact .inr z
end
end Dk
namespace Dk
open PySem PySem.Spec PyProof.Rows L2
local macro_rules | `(tactic| walk_at "s1") => `(tactic| with_reducible first
  | refine w_seq ?_ | refine w_asg ?_ | refine w_drop ?_ | refine w_ret ?_ | refine w_retN ?_ | refine w_next ?_ | refine w_if ?_ | refine w_c ?_ | refine w_op ?_ | refine w_un ?_
  | refine w_fld ?_ | refine w_sfld ?_ | refine w_meth ?_ | refine w_call ?_ | refine w_cons ?_ | refine w_nil ?_ | refine w_cb ?_ | refine w_gname ?_ | refine w_lst ?_ | refine w_tup ?_
  | refine w_sl ?_ | refine w_nopart ?_ | refine w_part ?_ | refine w_parti ?_ | refine w_bm ?_ | refine w_test ?_ | refine w_tB ?_ | refine w_not ?_ | refine w_and_t ?_ | refine w_or_t ?_ | refine w_andV ?_ | refine w_orV ?_
  | refine w_for ?_ | refine w_ilist ?_ | refine w_rng1 ?_ | refine w_rev ?_ | refine w_istr ?_ | refine w_istr2 ?_ | refine w_zip ?_ | refine w_enum ?_ | refine w_lc ?_ | refine w_break ?_ | refine w_cont ?_ | refine w_dnew ?_
  | refine w_make ?_ | refine w_bl ?_ | refine w_isN ?_ | refine w_notN ?_ | refine w_neg ?_
  | refine w_add ?_ | refine w_sub ?_ | refine w_lt ?_ | refine w_le ?_ | refine w_gt ?_ | refine w_ge ?_ | refine w_eqI ?_ | refine w_neI ?_)
local macro_rules | `(tactic| walk_at "sv") => `(tactic| ((with_reducible refine' w_var ?hh ?_); (case hh => exact rfl)))
local macro_rules | `(tactic| walk_at "st") => `(tactic| first | walk_at "s1" | walk_at "sv")
local macro_rules | `(tactic| walk_at "go") => `(tactic| repeat' walk_at "st")
local macro_rules | `(tactic| walk_at "s1x") => `(tactic| with_reducible first
  | refine w_seq ?_ | refine w_asg ?_ | refine w_drop ?_ | refine w_ret ?_ | refine w_retN ?_ | refine w_next ?_ | refine w_c ?_ | refine w_op ?_ | refine w_un ?_
  | refine w_fld ?_ | refine w_sfld ?_ | refine w_meth ?_ | refine w_call ?_ | refine w_cons ?_ | refine w_nil ?_ | refine w_cb ?_ | refine w_gname ?_ | refine w_lst ?_ | refine w_tup ?_
  | refine w_sl ?_ | refine w_nopart ?_ | refine w_part ?_ | refine w_parti ?_ | refine w_bm ?_ | refine w_test ?_ | refine w_tB ?_ | refine w_not ?_ | refine w_and_t ?_ | refine w_or_t ?_ | refine w_andV ?_ | refine w_orV ?_
  | refine w_for ?_ | refine w_ilist ?_ | refine w_rng1 ?_ | refine w_rev ?_ | refine w_istr ?_ | refine w_istr2 ?_ | refine w_zip ?_ | refine w_enum ?_ | refine w_lc ?_ | refine w_break ?_ | refine w_cont ?_ | refine w_dnew ?_
  | refine w_make ?_ | refine w_bl ?_ | refine w_isN ?_ | refine w_notN ?_ | refine w_neg ?_
  | refine w_add ?_ | refine w_sub ?_ | refine w_lt ?_ | refine w_le ?_ | refine w_gt ?_ | refine w_ge ?_ | refine w_eqI ?_ | refine w_neI ?_)
local macro_rules | `(tactic| walk_at "gx") => `(tactic| repeat' first | walk_at "s1x" | walk_at "sv")
/-! ### a call of a def that a slot holds; what a list of the caller's is meanwhile -/
def tCallR (i : Nat) (P : Addr → Sp → Prop) (t : TA) : TE := fun σ H Q => ∃ f sp, σ[i]? = some (some (.ref f)) ∧ P f sp ∧ t σ H fun vs H1 => sp (vs ++ []) H1 Q E0
theorem pe_callR {X : Cx} {k i : Nat} {x : Str} {p pos : Pos} {e : Expr} {es : List Expr} {t : TA} {P : Addr → Sp → Prop} (A : ∀ f sp, P f sp → Held X.prog X.w X.K X.mg X.base k f sp) (hr : Room k X.A) (hN : X.N[i]? = some x) (hv : Vis X.env.scope x) (ha : PA X (e :: es) t)
    (hdb : (x == ("__debug__" : Str)) = false := by decide) (hcd : (x == ("__classdict__" : Str)) = false := by decide) (he : starEach (e :: es) X.env = (false, eval e X.env) :: starEach es X.env := by rfl) (hpl : (backTo pos (starEach es X.env)).any (·.1) = false := by rfl) :
    PE X (.Call (.Name x p) (e :: es) [] pos) (tCallR i P t) :=
  ⟨fun pins s σ H Q I h => by
    obtain ⟨g, pr, at4, hP, ht⟩ := h
    obtain ⟨dat, par, F, kp, bi⟩ := (A g pr hP).ex
    exact (pe_callL (i := i) (f := g) (sp := pr) (dvs := []) (E := E0) F hr hN hv kp bi .nil pass0 ha hdb hcd he hpl).run pins s σ H Q I ⟨at4, ht⟩⟩
def hide (L : Addr) (H : Hp) : Hp := fun b => if b = L then none else H b
section
variable {K : PySem.W.Frag} {mg : Str → Option Value} {a : Ad} {vs : List V} {H H0 H1 : Hp} {Q : VK} {E : XK} {σ : L2.St}
theorem hide_ne {L b : Addr} (n : b ≠ L) : hide L H b = H b := if_neg n
theorem hide_L {L : Addr} : hide L H L = none := if_pos rfl
theorem hide_some {L b : Addr} {o : HO} (h : hide L H b = some o) : b ≠ L ∧ H b = some o := by
  by_cases c : b = L
  · rw [c, hide_L] at h; cases h
  · exact ⟨c, by rwa [hide_ne c] at h⟩
theorem hide_same {L : Addr} : Same (hide L H) H := fun b o e => (hide_some e).2
theorem hide_mono {H' : Hp} {L : Addr} {F : List Addr} (k : Keep (L :: F) H H') : Keep F (hide L H) (hide L H') := fun b o e n => by
  obtain ⟨n1, e1⟩ := hide_some e
  rw [hide_ne n1]
  exact k _ _ e1 (by simp [n1, n])
theorem keep_hide {L : Addr} : Keep [L] H (hide L H) := fun b o e n => by rw [hide_ne (by simpa using n)]; exact e
theorem same_lock {L : Addr} {u : HO} : Same (hide L H) (upd H L u) := fun b o e => by
  obtain ⟨n1, e1⟩ := hide_some e
  rw [upd_ne n1]; exact e1
/-- nothing of the drive's is a locked thing -/
theorem DriveAt.keepZ {H' : Hp} {L p md B W : Addr} {d : Fm08.Disk} {o : Obj} {u : HO} (k : Keep [L] H H') (hL : H L = some (.frz o u)) (h : DriveAt a H p md B W d) : DriveAt a H' p md B W d := by
  have nz : ∀ {b : Addr} {x : HO}, H b = some x → (∀ o u, x ≠ .frz o u) → H' b = some x := fun e n => k _ _ e (by simpa using ne_of e hL (n o u))
  have nl : ∀ {b : Addr} {xs : List V}, H b = some (.lst xs) → H' b = some (.lst xs) := fun e => nz e (by intro o u e; cases e)
  have nt : ∀ {b : Addr} {xs : List V}, H b = some (.tup xs) → H' b = some (.tup xs) := fun e => nz e (by intro o u e; cases e)
  have ni : ∀ {b C dx : Addr} {fs : List (Str × V)}, H b = some (.ins C dx fs) → H' b = some (.ins C dx fs) := fun e => nz e (by intro o u e; cases e)
  obtain ⟨⟨kn, ⟨dx, oD⟩, hk⟩, M⟩ := h
  obtain ⟨dm, om⟩ := M.o
  obtain ⟨as, hB, hal⟩ := M.b
  obtain ⟨ws, hW, hwl⟩ := M.w
  refine ⟨⟨kn, ⟨dx, ni oD⟩, ?_⟩, ⟨⟨dm, ni om⟩, ⟨as, nl hB, hal.imp fun _ _ e => nl e⟩, ⟨ws, nl hW, hwl.imp fun _ _ e => e.elim fun x z => ⟨x, nt z.1, nl z.2⟩⟩, M.ne, M.blk, M.in'⟩⟩
  cases hu : d.up with
  | none => rw [hu] at hk; exact hk
  | some up =>
    rw [hu] at hk
    obtain ⟨kk, e, hK⟩ := hk
    obtain ⟨hd, nw, S, nm, pl, ⟨dK, oK⟩, ⟨dH, oH⟩, ⟨dS, oS⟩, kvs, mm, z1, z2, z3⟩ := hK.ex
    exact ⟨kk, e, ⟨hd, nw, S, nm, pl, ⟨dK, ni oK⟩, ⟨dH, ni oH⟩, ⟨dS, ni oS⟩, kvs, mm, nz z1 (by intro o u e; cases e), z2.imp fun _ _ h => ⟨h.1, nl h.2⟩, z3⟩⟩
theorem SqL.nf {H' : Hp} {F : List Addr} {c : Addr} {z : Int} {xs : List Int} (k : Keep F H H') (hF : AllF H F) (h : SqL K H c (List.map V.int (z :: xs))) : SqL K H' c (List.map V.int (z :: xs)) := by
  rcases h with h | h
  · rcases h with h | ⟨o, h⟩
    · exact .inl (.inl (k.nf hF h nf_int))
    · exact .inl (.inr ⟨o, k.nf hF h (by rintro (⟨_, e⟩ | ⟨_, _, _, _, e⟩ | ⟨_, _, _, _, e⟩ | ⟨_, _, _, _, e⟩) <;> cases e)⟩)
  · exact .inr h
/-- which numbers a call may have -/
theorem shape_some {p : Int} {x : Nat × Nat} (h : PyFm08.shape p = some x) : ∃ n : Nat, n < 16 ∧ p = (n : Int) := by
  unfold PyFm08.shape at h
  by_cases c : 0 ≤ p ∧ p < 16
  · exact ⟨p.toNat, by omega, by omega⟩
  · exfalso
    simp only [show ¬ p = 0 by omega, show ¬ p = 1 by omega, show ¬ p = 2 by omega, show ¬ p = 3 by omega, show ¬ p = 4 by omega, show ¬ p = 5 by omega, show ¬ p = 6 by omega, show ¬ p = 7 by omega, show ¬ p = 8 by omega, show ¬ p = 9 by omega, show ¬ p = 10 by omega, show ¬ p = 11 by omega, show ¬ p = 12 by omega, show ¬ p = 13 by omega, show ¬ p = 14 by omega, show ¬ p = 15 by omega, if_false] at h
    cases h
theorem told_cons (x : List Int) (l : List (List Int)) : PyFlat.told (x :: l) = (x.length : Int) :: x ++ PyFlat.told l := by unfold PyFlat.told; rw [List.flatMap_cons]
/-- one step keeps the disk sound and adds few writes -/
theorem step_in {d : Fm08.Disk} {cl : Fm08Neutral.Call} (ok : DiskIn d) (hw : d.way.length ≤ 40000) (ask : Fm08Neutral.asked1 cl = true) : DiskIn (Fm08Neutral.step d cl).1 ∧ (Fm08Neutral.step d cl).1.way.length ≤ d.way.length + 31 := by
  unfold Fm08Neutral.step
  cases e : Fm08Neutral.callOf cl with
  | none => exact ⟨ok, Nat.le_add_right _ _⟩
  | some x =>
    show DiskIn (Fm08.spec d x).2 ∧ (Fm08.spec d x).2.way.length ≤ d.way.length + 31
    cases x with
    | make n j =>
      have es : (Fm08.spec d (.make n j)).2 = (if (decide (0 ≤ n) && (decide (0 ≤ j) && Fm08.shapeOk n.toNat j.toNat)) = true then (Fm08.only 0, Fm08.made n.toNat j.toNat) else (Fm08.only (-2), d)).2 := rfl
      rw [es]
      split
      · rename_i c
        simp only [Bool.and_eq_true] at c
        exact ⟨made_in c.2.2, by simp [Fm08.made]⟩
      · exact ⟨ok, Nat.le_add_right _ _⟩
    | read k =>
      have e2 : (Fm08.spec d (.read k)).2 = d := by
        cases hu : d.up with
        | none =>
          have es : Fm08.spec d (.read k) = (Fm08.only (-6), d) := by unfold Fm08.spec; rw [hu]
          rw [es]
        | some u =>
          have es : Fm08.spec d (.read k) = if Fm08.below k (Fm08.homes d.medium.length u.j) = true then ({ v := 0, out := Fm08.read d k.toNat }, d) else (Fm08.only (-2), d) := by unfold Fm08.spec; rw [hu]
          rw [es]; split <;> rfl
      rw [e2]; exact ⟨ok, by omega⟩
    | run o => exact ⟨after_in ok (by omega) o, after_way o⟩
    | cut l => exact ⟨cut_in_ok ok l, by simp [Fm08.spec, Fm08.cut]⟩
    | cutIn o n l =>
      refine ⟨cutIn_in ok (by omega) o n l, ?_⟩
      show (Fm08.cutIn d o n l).way.length ≤ _
      unfold Fm08.cutIn
      cases (Fm08.plan d o).2 <;> simp [Fm08.cut]
    | arrive l =>
      have r := reached_in l d.medium d.way ok.mok.blk ok.way
      refine ⟨⟨Mok.of_len ok.mok r.2 r.1, fun u hu => ?_, fun w hw => ?_⟩, by simp [Fm08.spec, Fm08.arrive]⟩
      · show UpOk (Fm08.reached d.medium d.way l).length u
        rw [r.2]; exact ok.up u hu
      · show w.block < (Fm08.reached d.medium d.way l).length ∧ _
        rw [r.2]; exact ok.way w hw
    | told =>
      have e2 : (Fm08.spec d .told).2 = d := by cases hu : d.up <;> (unfold Fm08.spec; rw [hu])
      rw [e2]; exact ⟨ok, by omega⟩
    | block b =>
      have e2 : (Fm08.spec d (.block b)).2 = d := by
        have es : Fm08.spec d (.block b) = if Fm08.below b d.medium.length = true then ({ v := 0, out := d.medium.getD b.toNat [] }, d) else (Fm08.only (-2), d) := rfl
        rw [es]; split <;> rfl
      rw [e2]; exact ⟨ok, by omega⟩
    | look =>
      have e2 : (Fm08.spec d .look).2 = d := by cases hu : Fm08.best d.medium <;> (unfold Fm08.spec; rw [hu])
      rw [e2]; exact ⟨ok, by omega⟩
    | save => exact ⟨ok, by simp [Fm08.spec]⟩
    | load b =>
      have hb : ∀ x ∈ b, x < 256 := by
        unfold Fm08Neutral.callOf at e
        split at e <;> first | cases e | skip
        rename_i medium
        have a1 : (medium.all (fun z => Fm08Neutral.natural z 8) && decide (medium.length ≤ 131072)) = true := ask
        rw [Bool.and_eq_true] at a1
        exact nats_lt (b := 8) (nat_all a1.1)
      have es : (Fm08.spec d (.load b)).2 = (if b.length % Fm08.SIZE = 0 ∧ 8 ≤ b.length / Fm08.SIZE ∧ b.length / Fm08.SIZE ≤ Fm08.LARGE then (Fm08.only 0, (⟨Fm08.blocksOf b, [], none⟩ : Fm08.Disk)) else (Fm08.only (-2), d)).2 := rfl
      rw [es]
      split
      · rename_i c
        exact ⟨load_in c hb, by simp⟩
      · exact ⟨ok, Nat.le_add_right _ _⟩
    | plan o => exact ⟨ok, by simp [Fm08.spec]⟩
    | sum b => exact ⟨ok, by simp [Fm08.spec]⟩
end
end Dk
namespace Dk
open PySem PySem.Spec PyProof.Rows L2
/-! ### what each of the later calls is to answer -/
theorem step_of {d : Fm08.Disk} {cl : Fm08Neutral.Call} {x : Fm08.Call} (h : Fm08Neutral.callOf cl = some x) : Fm08Neutral.step d cl = ((Fm08.spec d x).2, if (Fm08.spec d x).1.v < 0 then [(Fm08.spec d x).1.v] else (Fm08.spec d x).1.v :: Fm08Neutral.ints (Fm08.spec d x).1.out) := by
  unfold Fm08Neutral.step
  rw [h]
theorem step_nat {d d' : Fm08.Disk} {cl : Fm08Neutral.Call} {x : Fm08.Call} {n : Nat} {o : List Nat} (h : Fm08Neutral.callOf cl = some x) (e : Fm08.spec d x = ({ v := (n : Int), out := o }, d')) : Fm08Neutral.step d cl = (d', Fm08Neutral.ints (n :: o)) := by
  rw [step_of h, e]
  dsimp only
  rw [if_neg (by omega)]
  rfl
theorem step_arrive (d : Fm08.Disk) (r : List Int) : Fm08Neutral.step d [[((8 : Nat) : Int)], r] = (Fm08.arrive d (Fm08Neutral.nats r), [0]) := step_only (x := .arrive (Fm08Neutral.nats r)) rfl rfl
theorem step_told_none {d : Fm08.Disk} (h : d.up = none) : Fm08Neutral.step d [[((9 : Nat) : Int)]] = (d, [-6]) := step_only (x := .told) rfl (by unfold Fm08.spec; rw [h])
theorem step_told_some {d : Fm08.Disk} {u : Fm08.Up} (h : d.up = some u) : Fm08Neutral.step d [[((9 : Nat) : Int)]] = (d, Fm08Neutral.ints [0, d.medium.length, u.j, Fm08.homes d.medium.length u.j, u.next, u.place, u.used, u.gen, d.way.length]) :=
  step_nat (n := 0) (x := .told) rfl (by unfold Fm08.spec; rw [h]; rfl)
theorem step_block_in {d : Fm08.Disk} {b : Int} (h : Fm08.below b d.medium.length = true) : Fm08Neutral.step d [[((10 : Nat) : Int), b]] = (d, Fm08Neutral.ints (0 :: d.medium.getD b.toNat [])) :=
  step_nat (n := 0) (x := .block b) rfl (by show (if Fm08.below b d.medium.length = true then _ else _) = _; rw [if_pos h]; rfl)
theorem step_block_out {d : Fm08.Disk} {b : Int} (h : ¬ Fm08.below b d.medium.length = true) : Fm08Neutral.step d [[((10 : Nat) : Int), b]] = (d, [-2]) :=
  step_only (x := .block b) rfl (by show (if Fm08.below b d.medium.length = true then _ else _) = _; rw [if_neg h])
theorem step_look_none {d : Fm08.Disk} (h : Fm08.best d.medium = none) : Fm08Neutral.step d [[((11 : Nat) : Int)]] = (d, [-6]) := step_only (x := .look) rfl (by unfold Fm08.spec; rw [h])
theorem step_look_some {d : Fm08.Disk} {h : Fm08.Head} (e : Fm08.best d.medium = some h) : Fm08Neutral.step d [[((11 : Nat) : Int)]] =
    (d, Fm08Neutral.ints (0 :: [h.gen, h.next, h.place, (Fm08.found d.medium h.j h.j h.next h.place).1.length] ++ (Fm08.found d.medium h.j h.j h.next h.place).1.flatMap fun (t : Fm08.Txn) => t.length :: t.map fun (x : Nat × Fm08.Bytes) => x.1)) :=
  step_nat (n := 0) (x := .look) rfl (by unfold Fm08.spec; rw [e]; rfl)
theorem step_save (d : Fm08.Disk) : Fm08Neutral.step d [[((12 : Nat) : Int)]] = (d, Fm08Neutral.ints (d.medium.length :: d.medium.flatten)) := step_nat (x := .save) rfl rfl
theorem step_load_in {d : Fm08.Disk} {b : List Int} (h : (Fm08Neutral.nats b).length % Fm08.SIZE = 0 ∧ 8 ≤ (Fm08Neutral.nats b).length / Fm08.SIZE ∧ (Fm08Neutral.nats b).length / Fm08.SIZE ≤ Fm08.LARGE) :
    Fm08Neutral.step d [[((13 : Nat) : Int)], b] = (⟨Fm08.blocksOf (Fm08Neutral.nats b), [], none⟩, [0]) :=
  step_only (x := .load (Fm08Neutral.nats b)) rfl (by show (if _ then _ else _) = _; rw [if_pos h])
theorem step_load_out {d : Fm08.Disk} {b : List Int} (h : ¬ ((Fm08Neutral.nats b).length % Fm08.SIZE = 0 ∧ 8 ≤ (Fm08Neutral.nats b).length / Fm08.SIZE ∧ (Fm08Neutral.nats b).length / Fm08.SIZE ≤ Fm08.LARGE)) :
    Fm08Neutral.step d [[((13 : Nat) : Int)], b] = (d, [-2]) :=
  step_only (x := .load (Fm08Neutral.nats b)) rfl (by show (if _ then _ else _) = _; rw [if_neg h])
theorem spec_plan (d : Fm08.Disk) (o : Fm08.Op) : Fm08.spec d (.plan o) = ((match Fm08.plan d o with
    | (_, some x) => ({ v := 0, out := x.1.flatMap Fm08.actTold } : Fm08.Ans)
    | (z, none) => Fm08.only z), d) := rfl
theorem step_plan_some {d : Fm08.Disk} {k : Int} {ho bl : List Int} {z : Int} {x : List Fm08.Act × Fm08.Up} (h : Fm08.plan d (Fm08Neutral.opOf k ho bl) = (z, some x)) : Fm08Neutral.step d [[((14 : Nat) : Int), k], ho, bl] = (d, Fm08Neutral.ints (0 :: x.1.flatMap Fm08.actTold)) :=
  step_nat (n := 0) (x := .plan (Fm08Neutral.opOf k ho bl)) rfl (by rw [spec_plan, h]; rfl)
theorem step_plan_none {d : Fm08.Disk} {k : Int} {ho bl : List Int} {z : Int} (h : Fm08.plan d (Fm08Neutral.opOf k ho bl) = (z, none)) : Fm08Neutral.step d [[((14 : Nat) : Int), k], ho, bl] = (d, [z]) :=
  step_only (x := .plan (Fm08Neutral.opOf k ho bl)) rfl (by rw [spec_plan, h])
theorem step_sum (d : Fm08.Disk) (b : List Int) : Fm08Neutral.step d [[((15 : Nat) : Int)], b] = (d, [((Fm08.sum (Fm08Neutral.nats b) : Nat) : Int)]) := step_only (x := .sum (Fm08Neutral.nats b)) rfl rfl
end Dk
namespace Dk
open PySem PySem.Spec PyProof.Rows L2
local macro_rules | `(tactic| walk_at "s1") => `(tactic| with_reducible first
  | refine w_seq ?_ | refine w_asg ?_ | refine w_drop ?_ | refine w_ret ?_ | refine w_retN ?_ | refine w_next ?_ | refine w_if ?_ | refine w_c ?_ | refine w_op ?_ | refine w_un ?_
  | refine w_fld ?_ | refine w_sfld ?_ | refine w_meth ?_ | refine w_call ?_ | refine w_cons ?_ | refine w_nil ?_ | refine w_cb ?_ | refine w_gname ?_ | refine w_lst ?_ | refine w_tup ?_
  | refine w_sl ?_ | refine w_nopart ?_ | refine w_part ?_ | refine w_parti ?_ | refine w_bm ?_ | refine w_test ?_ | refine w_tB ?_ | refine w_not ?_ | refine w_and_t ?_ | refine w_or_t ?_ | refine w_andV ?_ | refine w_orV ?_
  | refine w_for ?_ | refine w_ilist ?_ | refine w_rng1 ?_ | refine w_rev ?_ | refine w_istr ?_ | refine w_istr2 ?_ | refine w_zip ?_ | refine w_enum ?_ | refine w_lc ?_ | refine w_break ?_ | refine w_cont ?_ | refine w_dnew ?_
  | refine w_make ?_ | refine w_bl ?_ | refine w_isN ?_ | refine w_notN ?_ | refine w_neg ?_
  | refine w_add ?_ | refine w_sub ?_ | refine w_lt ?_ | refine w_le ?_ | refine w_gt ?_ | refine w_ge ?_ | refine w_eqI ?_ | refine w_neI ?_)
local macro_rules | `(tactic| walk_at "sv") => `(tactic| ((with_reducible refine' w_var ?hh ?_); (case hh => exact rfl)))
local macro_rules | `(tactic| walk_at "st") => `(tactic| first | walk_at "s1" | walk_at "sv")
local macro_rules | `(tactic| walk_at "go") => `(tactic| repeat' walk_at "st")
local macro_rules | `(tactic| walk_at "s1x") => `(tactic| with_reducible first
  | refine w_seq ?_ | refine w_asg ?_ | refine w_drop ?_ | refine w_ret ?_ | refine w_retN ?_ | refine w_next ?_ | refine w_c ?_ | refine w_op ?_ | refine w_un ?_
  | refine w_fld ?_ | refine w_sfld ?_ | refine w_meth ?_ | refine w_call ?_ | refine w_cons ?_ | refine w_nil ?_ | refine w_cb ?_ | refine w_gname ?_ | refine w_lst ?_ | refine w_tup ?_
  | refine w_sl ?_ | refine w_nopart ?_ | refine w_part ?_ | refine w_parti ?_ | refine w_bm ?_ | refine w_test ?_ | refine w_tB ?_ | refine w_not ?_ | refine w_and_t ?_ | refine w_or_t ?_ | refine w_andV ?_ | refine w_orV ?_
  | refine w_for ?_ | refine w_ilist ?_ | refine w_rng1 ?_ | refine w_rev ?_ | refine w_istr ?_ | refine w_istr2 ?_ | refine w_zip ?_ | refine w_enum ?_ | refine w_lc ?_ | refine w_break ?_ | refine w_cont ?_ | refine w_dnew ?_
  | refine w_make ?_ | refine w_bl ?_ | refine w_isN ?_ | refine w_notN ?_ | refine w_neg ?_
  | refine w_add ?_ | refine w_sub ?_ | refine w_lt ?_ | refine w_le ?_ | refine w_gt ?_ | refine w_ge ?_ | refine w_eqI ?_ | refine w_neI ?_)
local macro_rules | `(tactic| walk_at "gx") => `(tactic| repeat' first | walk_at "s1x" | walk_at "sv")
section
variable {K : PySem.W.Frag} {mg : Str → Option Value} {a : Ad} {vs : List V} {H H0 H1 : Hp} {Q : VK} {E : XK} {σ : L2.St}
theorem ints_li {r : Addr} {l : List Nat} (h : LB H r l) : LI H r (Fm08Neutral.ints l) := by
  show H r = _
  rw [h]
  simp [il, Fm08Neutral.ints]
theorem ln_Drive_arrive (h : sp_Drive_arrive K a vs H Q E) : vs.length = 2 := by obtain ⟨p, md, B, W, d, r0, row, rfl, _⟩ := h; rfl
theorem pure_Drive_arrive (T : Tx K mg a) (h : sp_Drive_arrive K a vs H Q E) : t_Drive_arrive K a { nx := fun _ H' => Q .non H', rt := Q } (L2.start N_Drive_arrive vs) H := by
  obtain ⟨p, md, B, W, d, r0, row, rfl, hD, ok, hr, rB, q⟩ := h
  obtain ⟨kn, ⟨dD, oD⟩, hk⟩ := hD.o
  have po := hD.out
  have hF := hD.m.allF
  obtain ⟨dm, om⟩ := hD.m.o
  unfold t_Drive_arrive
  walk_at "go"
  refine g_Drive_medium T ⟨dD, oD⟩ ?_
  refine m_Medium_arrive ⟨dm, om⟩ ?_
  walk_at "go"
  refine ⟨md, B, W, d.medium, d.way, r0, row, rfl, hD.m, hr, rB, fun H1 M1 k1 => ?_⟩
  walk_at "go"
  refine ⟨by decide, fun r nr => ?_⟩
  have sr := same_new (o := .lst [V.int 0]) nr
  have k1' : Keep [md, B, W] H H1 := k1.mono (by simp)
  have f : Fr H H1 [md, B, W] [md, B, W] := ⟨k1', fun b m => .inl m⟩
  have rl := (reached_in row d.medium d.way hD.m.blk hD.m.in').2
  refine q _ r ⟨⟨kn, ⟨dD, sr _ _ (k1' _ _ oD po)⟩, ?_⟩, M1.mono sr⟩ upd_same (f.wide.trans (Fr.same _ sr)) (f.wide.back nr)
  have eu : (Fm08.arrive d row).up = d.up := rfl
  rw [eu]
  cases hu : d.up with
  | none => rw [hu] at hk; exact hk
  | some u =>
    rw [hu] at hk
    obtain ⟨k, e, hK⟩ := hk
    refine ⟨k, e, ?_⟩
    show KnownAt a _ k (Fm08.reached d.medium d.way row).length u
    rw [rl]
    exact (hK.nf k1' hF (over_ne (ok.up u hu))).mono sr
theorem ln_Drive_told (h : sp_Drive_told K a vs H Q E) : vs.length = 1 := by obtain ⟨p, md, B, W, d, rfl, _⟩ := h; rfl
theorem pure_Drive_told (T : Tx K mg a) (h : sp_Drive_told K a vs H Q E) : t_Drive_told K a { nx := fun _ H' => Q .non H', rt := Q } (L2.start N_Drive_told vs) H := by
  obtain ⟨p, md, B, W, d, rfl, hD, ok, q⟩ := h
  unfold Tells at q
  unfold t_Drive_told
  walk_at "go"
  cases hu : d.up with
  | none =>
    rw [step_told_none hu] at q
    refine g_Drive_known T (hD.unknown hu) ?_
    walk_at "go"
    rw [non_non]
    refine w_tt ?_
    walk_at "go"
    exact ⟨by decide, fun r nr => q _ r (same_new nr) nr upd_same⟩
  | some u =>
    rw [step_told_some hu] at q
    obtain ⟨kk, oD, hK⟩ := hD.known hu
    have uo := ok.up u hu
    have sh := (Dm.shape_iff _ _).mp uo.sh
    obtain ⟨hd, nw, S, nm, pl, oK, oH, hS, hN⟩ := hK.ex
    refine g_Drive_known T oD ?_
    walk_at "go"
    rw [ref_non]
    refine w_ff ?_
    walk_at "go"
    refine g_Known_head T oK (g_Head_shape T oH ?_)
    walk_at "go"
    refine g_Shape_block_count T hS ?_
    walk_at "go"
    refine g_Shape_place_count T hS ?_
    walk_at "go"
    refine g_Shape_home_count T hS ?_
    walk_at "go"
    refine ⟨by show 3 ≤ sizeLine; decide, fun A nA => ?_⟩
    have eh : (d.medium.length : Int) - u.j - 2 = (Fm08.homes d.medium.length u.j : Nat) := by unfold Fm08.homes; omega
    rw [eh]
    have sA := same_new (o := .lst [V.int (d.medium.length : Nat), V.int (u.j : Nat), V.int (Fm08.homes d.medium.length u.j : Nat)]) nA
    have bA : LB (upd H A (.lst [V.int (d.medium.length : Nat), V.int (u.j : Nat), V.int (Fm08.homes d.medium.length u.j : Nat)])) A [d.medium.length, u.j, Fm08.homes d.medium.length u.j] := upd_same
    generalize upd H A (.lst [V.int (d.medium.length : Nat), V.int (u.j : Nat), V.int (Fm08.homes d.medium.length u.j : Nat)]) = H2 at *
    walk_at "go"
    refine ⟨by decide, fun Z nZ => ?_⟩
    have sZ := same_new (o := .lst [V.int 0]) nZ
    have bZ : LB (upd H2 Z (.lst [V.int 0])) Z [0] := upd_same
    generalize upd H2 Z (.lst [V.int 0]) = H3 at *
    walk_at "go"
    refine x_cat bZ (bA.mono sZ) (by show 1 + 3 ≤ sizeLine; decide) fun H4 Y sY nY bY => ?_
    have s4 := (sA.trans sZ).trans sY
    walk_at "go"
    refine g_Known_number T (oK.mono s4) ?_
    walk_at "go"
    refine g_Known_place T (oK.mono s4) ?_
    walk_at "go"
    refine g_Known_taken T (oK.mono s4) ?_
    walk_at "go"
    refine g_Known_head T (oK.mono s4) (g_Head_generation T (oH.mono s4) ?_)
    walk_at "go"
    obtain ⟨ws, hW, hwl⟩ := hD.m.w
    refine g_Drive_medium T (oD.mono s4) (g_Medium_on_way T (hD.m.o.mono s4) ?_)
    walk_at "go"
    refine w_len (.of (s4 _ _ hW)) ?_
    rw [List.length_map, hwl.len]
    walk_at "go"
    refine ⟨by show 5 ≤ sizeLine; decide, fun X nX => ?_⟩
    have sX := same_new (o := .lst [V.int (u.next : Nat), V.int (u.place : Nat), V.int (u.used : Nat), V.int (u.gen : Nat), V.int (d.way.length : Nat)]) nX
    have bX : LB (upd H4 X (.lst [V.int (u.next : Nat), V.int (u.place : Nat), V.int (u.used : Nat), V.int (u.gen : Nat), V.int (d.way.length : Nat)])) X [u.next, u.place, u.used, u.gen, d.way.length] := upd_same
    generalize upd H4 X (.lst [V.int (u.next : Nat), V.int (u.place : Nat), V.int (u.used : Nat), V.int (u.gen : Nat), V.int (d.way.length : Nat)]) = H5 at *
    refine x_cat (bY.mono sX) bX (by show 4 + 5 ≤ sizeLine; decide) fun H6 r s6 nr br => ?_
    exact q H6 r ((s4.trans sX).trans s6) ((s4.trans sX).free nr) (ints_li br)
theorem ln_Drive_block (h : sp_Drive_block K a vs H Q E) : vs.length = 2 := by obtain ⟨p, md, B, W, d, b, rfl, _⟩ := h; rfl
theorem pure_Drive_block (T : Tx K mg a) (h : sp_Drive_block K a vs H Q E) : t_Drive_block K a { nx := fun _ H' => Q .non H', rt := Q } (L2.start N_Drive_block vs) H := by
  obtain ⟨p, md, B, W, d, b, rfl, hD, ok, q⟩ := h
  unfold Tells at q
  obtain ⟨kn, oD, _⟩ := hD.o
  obtain ⟨as, hB, hal⟩ := hD.m.b
  have asl : as.length = d.medium.length := hal.len
  have neg : ¬ (0 ≤ b ∧ b < (d.medium.length : Int)) → ∀ r, H r = none → Q (.ref r) (upd H r (.lst [V.int (-2)])) := fun h r nr => by
    rw [step_block_out (d := d) (b := b) (by unfold Fm08.below; simp only [Bool.and_eq_true, decide_eq_true_eq]; exact h)] at q
    exact q _ r (same_new nr) nr upd_same
  unfold t_Drive_block
  walk_at "go"
  refine w_dec (fun c1 => ?_) (fun c1 => ?_)
  · refine w_tt ?_
    walk_at "go"
    exact ⟨by decide, fun r nr => neg (by omega) r nr⟩
  walk_at "go"
  refine g_Drive_medium T oD (g_Medium_blocks T hD.m.o ?_)
  walk_at "go"
  refine w_len (.of hB) ?_
  rw [List.length_map, asl]
  walk_at "go"
  refine w_dec (fun c2 => ?_) (fun c2 => ?_)
  · walk_at "go"
    exact ⟨by decide, fun r nr => neg (by omega) r nr⟩
  rw [step_block_in (d := d) (b := b) (by unfold Fm08.below; simp only [Bool.and_eq_true, decide_eq_true_eq]; omega)] at q
  obtain ⟨b, rfl⟩ : ∃ m : Nat, b = (m : Int) := ⟨b.toNat, by omega⟩
  rw [Int.toNat_natCast] at q
  walk_at "go"
  refine ⟨by decide, fun Z nZ => ?_⟩
  have sZ := same_new (o := .lst [V.int 0]) nZ
  have bZ : LB (upd H Z (.lst [V.int 0])) Z [0] := upd_same
  generalize upd H Z (.lst [V.int 0]) = H2 at *
  walk_at "go"
  refine g_Drive_medium T (oD.mono sZ) (g_Medium_blocks T (hD.m.o.mono sZ) ?_)
  walk_at "go"
  have hlt : b < d.medium.length := by omega
  obtain ⟨x, hx, hX⟩ := hal.get2 (show d.medium[b]? = some (d.medium.getD b []) by rw [List.getD_eq_getElem?_getD, List.getElem?_eq_getElem hlt]; rfl)
  refine w_ixL (.of (sZ _ _ hB)) (atI_nat (show (as.map V.ref)[b]? = some (V.ref x) by simp [hx])) ?_
  have yb := ((Dm.isBlock_iff _).mp (Dm.blk_get ok.mok.blk hlt)).1
  refine x_cat bZ (hX.mono sZ) (by show 1 + _ ≤ 16777216; omega) fun H6 r s6 nr br => ?_
  exact q H6 r (sZ.trans s6) (sZ.free nr) (ints_li br)
end
end Dk
namespace Dk
open PySem PySem.Spec PyProof.Rows L2
local macro_rules | `(tactic| walk_at "s1") => `(tactic| with_reducible first
  | refine w_seq ?_ | refine w_asg ?_ | refine w_drop ?_ | refine w_ret ?_ | refine w_retN ?_ | refine w_next ?_ | refine w_if ?_ | refine w_c ?_ | refine w_op ?_ | refine w_un ?_
  | refine w_fld ?_ | refine w_sfld ?_ | refine w_meth ?_ | refine w_call ?_ | refine w_cons ?_ | refine w_nil ?_ | refine w_cb ?_ | refine w_gname ?_ | refine w_lst ?_ | refine w_tup ?_
  | refine w_sl ?_ | refine w_nopart ?_ | refine w_part ?_ | refine w_parti ?_ | refine w_bm ?_ | refine w_test ?_ | refine w_tB ?_ | refine w_not ?_ | refine w_and_t ?_ | refine w_or_t ?_ | refine w_andV ?_ | refine w_orV ?_
  | refine w_for ?_ | refine w_ilist ?_ | refine w_rng1 ?_ | refine w_rev ?_ | refine w_istr ?_ | refine w_istr2 ?_ | refine w_zip ?_ | refine w_enum ?_ | refine w_lc ?_ | refine w_break ?_ | refine w_cont ?_ | refine w_dnew ?_
  | refine w_make ?_ | refine w_bl ?_ | refine w_isN ?_ | refine w_notN ?_ | refine w_neg ?_
  | refine w_add ?_ | refine w_sub ?_ | refine w_lt ?_ | refine w_le ?_ | refine w_gt ?_ | refine w_ge ?_ | refine w_eqI ?_ | refine w_neI ?_)
local macro_rules | `(tactic| walk_at "sv") => `(tactic| ((with_reducible refine' w_var ?hh ?_); (case hh => exact rfl)))
local macro_rules | `(tactic| walk_at "st") => `(tactic| first | walk_at "s1" | walk_at "sv")
local macro_rules | `(tactic| walk_at "go") => `(tactic| repeat' walk_at "st")
local macro_rules | `(tactic| walk_at "s1x") => `(tactic| with_reducible first
  | refine w_seq ?_ | refine w_asg ?_ | refine w_drop ?_ | refine w_ret ?_ | refine w_retN ?_ | refine w_next ?_ | refine w_c ?_ | refine w_op ?_ | refine w_un ?_
  | refine w_fld ?_ | refine w_sfld ?_ | refine w_meth ?_ | refine w_call ?_ | refine w_cons ?_ | refine w_nil ?_ | refine w_cb ?_ | refine w_gname ?_ | refine w_lst ?_ | refine w_tup ?_
  | refine w_sl ?_ | refine w_nopart ?_ | refine w_part ?_ | refine w_parti ?_ | refine w_bm ?_ | refine w_test ?_ | refine w_tB ?_ | refine w_not ?_ | refine w_and_t ?_ | refine w_or_t ?_ | refine w_andV ?_ | refine w_orV ?_
  | refine w_for ?_ | refine w_ilist ?_ | refine w_rng1 ?_ | refine w_rev ?_ | refine w_istr ?_ | refine w_istr2 ?_ | refine w_zip ?_ | refine w_enum ?_ | refine w_lc ?_ | refine w_break ?_ | refine w_cont ?_ | refine w_dnew ?_
  | refine w_make ?_ | refine w_bl ?_ | refine w_isN ?_ | refine w_notN ?_ | refine w_neg ?_
  | refine w_add ?_ | refine w_sub ?_ | refine w_lt ?_ | refine w_le ?_ | refine w_gt ?_ | refine w_ge ?_ | refine w_eqI ?_ | refine w_neI ?_)
local macro_rules | `(tactic| walk_at "gx") => `(tactic| repeat' first | walk_at "s1x" | walk_at "sv")
section
variable {K : PySem.W.Frag} {mg : Str → Option Value} {a : Ad} {vs : List V} {H H0 H1 : Hp} {Q : VK} {E : XK} {σ : L2.St}
theorem x_appS {D : Addr} {xs : List Nat} {n : Nat} (s : Same H0 H) (nD : H0 D = none) (h : LB H D xs) (l : xs.length < sizeLine) (k : ∀ H', Same H0 H' → LB H' D (xs ++ [n]) → Q .non H') : rAppend (.ref D) [.int n] H Q :=
  w_app h (by rw [il_len]; exact l) (k _ (fun b o e => by rw [upd_ne (ne_of_none e nD)]; exact s b o e) (by show upd _ _ _ _ = _; rw [upd_same, il_app]; rfl))
theorem flat_le {α : Type} {f : α → List Nat} {c : Nat} : ∀ {l : List α}, (∀ x ∈ l, (f x).length ≤ c) → (l.flatMap f).length ≤ c * l.length
  | [], _ => by simp
  | x :: l, h => by
    have h1 := flat_le (l := l) fun y m => h y (by simp [m])
    have h2 := h x (by simp)
    rw [List.flatMap_cons, List.length_append, List.length_cons, Nat.mul_add]
    omega
theorem flat_snoc {α : Type} {f : α → List Nat} {l : List α} {i : Nat} {x : α} (h : l[i]? = some x) : (l.take (i + 1)).flatMap f = (l.take i).flatMap f ++ f x := by
  rw [List.take_add_one, h, List.flatMap_append]
  simp
theorem ln_Drive_save (h : sp_Drive_save K a vs H Q E) : vs.length = 1 := by obtain ⟨p, md, B, W, d, rfl, _⟩ := h; rfl
theorem pure_Drive_save (T : Tx K mg a) (h : sp_Drive_save K a vs H Q E) : t_Drive_save K a { nx := fun _ H' => Q .non H', rt := Q } (L2.start N_Drive_save vs) H := by
  obtain ⟨p, md, B, W, d, rfl, hD, ok, q⟩ := h
  unfold Tells at q
  rw [step_save, show d.medium.flatten = d.medium.flatMap id by simp] at q
  obtain ⟨kn, oD, _⟩ := hD.o
  obtain ⟨as, hB, hal⟩ := hD.m.b
  have asl : as.length = d.medium.length := hal.len
  have most := ok.mok.most
  have bound : ∀ i, ((d.medium.take i).flatMap id).length ≤ 512 * 4096 := fun i => by
    have h1 := flat_le (f := id) (c := 512) (l := d.medium.take i) fun x m => Nat.le_of_eq ((Dm.isBlock_iff _).mp (ok.mok.blk x (List.mem_of_mem_take m))).1
    have h2 : (d.medium.take i).length ≤ 4096 := by rw [List.length_take]; omega
    exact Nat.le_trans h1 (Nat.mul_le_mul_left _ h2)
  unfold t_Drive_save
  walk_at "go"
  refine g_Drive_medium T oD (g_Medium_blocks T hD.m.o ?_)
  walk_at "go"
  refine w_len (.of hB) ?_
  rw [List.length_map, asl]
  walk_at "go"
  refine ⟨by show 1 ≤ sizeLine; decide, fun L nL => ?_⟩
  have sL := same_new (o := .lst [V.int (d.medium.length : Nat)]) nL
  have bL : LB (upd H L (.lst [V.int (d.medium.length : Nat)])) L [d.medium.length] := upd_same
  generalize upd H L (.lst [V.int (d.medium.length : Nat)]) = H2 at *
  walk_at "go"
  refine g_Drive_medium T (oD.mono sL) (g_Medium_blocks T (hD.m.o.mono sL) ?_)
  walk_at "go"
  refine w_ilist2 (.of (sL _ _ hB)) ?_
  refine w_loop walk_list (fun i σ' H' => Same H H' ∧ (∃ v, σ' = [some (.ref p), some (.ref L), v]) ∧ LB H' L (d.medium.length :: (d.medium.take i).flatMap id))
    ⟨sL, ⟨_, rfl⟩, by simpa using bL⟩ (fun i σ' H' _ h => .of (h.1 _ _ hB)) ?_ ?_
  · rintro i x σ' H' H'' hi ⟨s, ⟨v, rfl⟩, bl⟩ ⟨rfl, hx⟩
    rw [List.length_map, asl] at hi
    obtain ⟨b, hb⟩ : ∃ b, d.medium[i]? = some b := ⟨d.medium[i], by rw [List.getElem?_eq_getElem]⟩
    obtain ⟨y, hy, hY⟩ := hal.get2 hb
    have ex : x = V.ref y := by simpa [hy] using hx.symm
    subst ex
    walk_at "go"
    refine w_tyl bl ?_
    walk_at "go"
    have h1 := bound (i + 1)
    have e1 := flat_snoc (f := id) hb
    refine x_ext s nL bl (hY.mono s) ?_ fun H3 s3 b3 => ⟨s3, ⟨_, rfl⟩, ?_⟩
    · rw [e1, List.length_append] at h1
      show _ + (id b).length ≤ 16777216
      rw [List.length_cons]
      omega
    · rw [e1]
      exact b3
  · rintro σ' H' ⟨s, ⟨v, rfl⟩, bl⟩
    rw [List.length_map, asl, List.take_length] at bl
    walk_at "go"
    exact q H' L s nL (ints_li bl)
theorem ln_Drive_look (h : sp_Drive_look K a vs H Q E) : vs.length = 1 := by obtain ⟨p, md, B, W, d, rfl, _⟩ := h; rfl
theorem pure_Drive_look (T : Tx K mg a) (h : sp_Drive_look K a vs H Q E) : t_Drive_look K a { nx := fun _ H' => Q .non H', rt := Q } (L2.start N_Drive_look vs) H := by
  obtain ⟨p, md, B, W, d, rfl, hD, ok, q⟩ := h
  unfold Tells at q
  obtain ⟨kn, oD, _⟩ := hD.o
  unfold t_Drive_look
  walk_at "go"
  refine g_Drive_medium T oD (g_Medium_blocks T hD.m.o ?_)
  walk_at "go"
  refine ⟨B, d.medium, rfl, hD.m.b, ok.mok, fun e H1 s1 => ?_, fun h e H1 F s1 hF => ?_⟩
  · rw [step_look_none e] at q
    walk_at "go"
    rw [non_non]
    refine w_tt ?_
    walk_at "go"
    exact ⟨by decide, fun r nr => q _ r (s1.trans (same_new nr)) (s1.free nr) upd_same⟩
  rw [step_look_some e] at q
  have hok := Dm.best_ok e
  have sh := (Dm.shape_iff _ _).mp hok.sh
  have hn := hok.n
  have most := ok.mok.most
  have fl := found_len d.medium h.j h.j h.next h.place
  have fg := found_good d.medium h.j h.j h.next h.place
  generalize Fm08.found d.medium h.j h.j h.next h.place = r at *
  obtain ⟨hd, tl, oF, ⟨S, oH, hS⟩, as, hL, hal⟩ := hF
  have asl : as.length = r.1.length := hal.len
  have bound : ∀ i, ((r.1.take i).flatMap fun (t : Fm08.Txn) => t.length :: t.map fun (x : Nat × Fm08.Bytes) => x.1).length ≤ 31 * 4096 := fun i => by
    have h1 := flat_le (f := fun (t : Fm08.Txn) => t.length :: t.map fun (x : Nat × Fm08.Bytes) => x.1) (c := 31) (l := r.1.take i) fun t m => by
      have := ((Dm.txnOk_iff _ _).mp (fg t (List.mem_of_mem_take m))).2.1
      simp
      omega
    have h2 : (r.1.take i).length ≤ 4096 := by rw [List.length_take]; omega
    exact Nat.le_trans h1 (Nat.mul_le_mul_left _ h2)
  walk_at "go"
  rw [ref_non]
  refine w_ff ?_
  walk_at "go"
  refine g_Found_head T oF (g_Head_generation T oH ?_)
  walk_at "go"
  refine g_Found_head T oF (g_Head_number T oH ?_)
  walk_at "go"
  refine g_Found_head T oF (g_Head_place T oH ?_)
  walk_at "go"
  refine g_Found_transactions T oF ?_
  walk_at "go"
  refine w_len (.of hL) ?_
  rw [List.length_map, asl]
  walk_at "go"
  refine ⟨by show 5 ≤ sizeLine; decide, fun L nL => ?_⟩
  have sL := same_new (o := .lst [V.int 0, V.int (h.gen : Nat), V.int (h.next : Nat), V.int (h.place : Nat), V.int (r.1.length : Nat)]) nL
  have bL : LB (upd H1 L (.lst [V.int 0, V.int (h.gen : Nat), V.int (h.next : Nat), V.int (h.place : Nat), V.int (r.1.length : Nat)])) L [0, h.gen, h.next, h.place, r.1.length] := upd_same
  generalize upd H1 L (.lst [V.int 0, V.int (h.gen : Nat), V.int (h.next : Nat), V.int (h.place : Nat), V.int (r.1.length : Nat)]) = H2 at *
  walk_at "go"
  refine g_Found_transactions T (oF.mono sL) ?_
  walk_at "go"
  refine w_ilist2 (.of (sL _ _ hL)) ?_
  refine w_loop walk_list (fun i σ' H' => Same H1 H' ∧ (∃ v, σ' = [some (.ref p), some (.ref F), some (.ref L), v]) ∧ LB H' L ([0, h.gen, h.next, h.place, r.1.length] ++ (r.1.take i).flatMap fun (t : Fm08.Txn) => t.length :: t.map fun (x : Nat × Fm08.Bytes) => x.1))
    ⟨sL, ⟨_, rfl⟩, by simpa using bL⟩ (fun i σ' H' _ h => .of (h.1 _ _ hL)) ?_ ?_
  · rintro i x σ' H' H'' hi ⟨s, ⟨v, rfl⟩, bl⟩ ⟨rfl, hx⟩
    rw [List.length_map, asl] at hi
    obtain ⟨t, ht⟩ : ∃ t, r.1[i]? = some t := ⟨r.1[i], by rw [List.getElem?_eq_getElem]⟩
    obtain ⟨y, hy, hY⟩ := hal.get2 ht
    have ex : x = V.ref y := by simpa [hy] using hx.symm
    subst ex
    obtain ⟨hs, bs, oT, hh, hb⟩ := hY
    have h1 := bound (i + 1)
    have e1 := flat_snoc (f := fun (t : Fm08.Txn) => t.length :: t.map fun (x : Nat × Fm08.Bytes) => x.1) ht
    rw [e1, List.length_append, List.length_cons, List.length_map] at h1
    walk_at "go"
    refine w_tyl bl ?_
    walk_at "go"
    refine g_Transaction_homes T (oT.mono s) ?_
    walk_at "go"
    refine w_len (hh.mono s).sq ?_
    rw [il_len, List.length_map]
    walk_at "go"
    refine x_appS s nL bl (by rw [List.length_append]; show 5 + _ < 16777216; omega) fun H3 s3 b3 => ?_
    walk_at "go"
    refine w_tyl b3 ?_
    walk_at "go"
    refine g_Transaction_homes T (oT.mono s3) ?_
    walk_at "go"
    refine x_ext s3 nL b3 (hh.mono s3) (by rw [List.length_append, List.length_append, List.length_map]; show 5 + _ + 1 + _ ≤ 16777216; omega) fun H4 s4 b4 => ⟨s4, ⟨_, rfl⟩, ?_⟩
    rw [e1]
    rw [List.append_assoc, List.append_assoc] at b4
    exact b4
  · rintro σ' H' ⟨s, ⟨v, rfl⟩, bl⟩
    rw [List.length_map, asl, List.take_length] at bl
    walk_at "go"
    exact q H' L (s1.trans s) (s1.free nL) (ints_li bl)
theorem ln_Drive_plan (h : sp_Drive_plan K a vs H Q E) : vs.length = 4 := by obtain ⟨p, md, B, W, d, kind, hs, ds, l, da, rfl, _⟩ := h; rfl
theorem pure_Drive_plan (T : Tx K mg a) (h : sp_Drive_plan K a vs H Q E) : t_Drive_plan K a { nx := fun _ H' => Q .non H', rt := Q } (L2.start N_Drive_plan vs) H := by
  obtain ⟨p, md, B, W, d, kind, hs, ds, ho, da, rfl, hD, ok, hk3, hop, q⟩ := h
  unfold plAns at q
  unfold t_Drive_plan
  walk_at "go"
  obtain ⟨kn, ⟨dD, oD⟩, _⟩ := hD.o
  refine m_Drive_operation ⟨dD, oD⟩ ?_
  walk_at "go"
  refine ⟨p, md, B, W, d, kind, hs, ds, ho, da, rfl, hD, ok, hk3, hop, fun H1 o s1 no hO => ?_⟩
  cases ep : (Fm08.plan d (opN kind ho da)).2 with
  | none =>
    have neg := plan_neg _ ep
    rw [ep] at q
    unfold OpAt at hO
    rw [ep] at hO
    obtain ⟨l, oO, nl, hl⟩ := hO
    walk_at "go"
    refine g_Operation_answer T oO ?_
    walk_at "go"
    refine w_dec (fun c => ?_) (fun c => absurd neg c)
    walk_at "go"
    refine g_Operation_answer T oO ?_
    walk_at "go"
    exact ⟨by show 1 ≤ sizeLine; decide, fun r nr => q _ r (s1.trans (same_new nr)) (s1.free nr) upd_same⟩
  | some x =>
    have po := plan_ok ok _ ep
    rw [ep] at q
    unfold OpAt at hO
    rw [ep] at hO
    obtain ⟨l, k, oO, nl, ⟨us, hus, al⟩, hK⟩ := hO
    have ul : us.length = x.1.length := al.len
    have xl := po.1.len
    have bound : ∀ i, ((x.1.take i).flatMap Fm08.actTold).length ≤ 2 * 7000 := fun i => by
      have h1 := flat_le (f := Fm08.actTold) (c := 2) (l := x.1.take i) fun c _ => by cases c <;> simp [Fm08.actTold]
      have h2 : (x.1.take i).length ≤ 7000 := by rw [List.length_take]; omega
      exact Nat.le_trans h1 (Nat.mul_le_mul_left _ h2)
    walk_at "go"
    refine g_Operation_answer T oO ?_
    walk_at "go"
    refine w_dec (fun c => absurd po.2 (by omega)) (fun c => ?_)
    walk_at "go"
    refine ⟨by decide, fun L nL => ?_⟩
    have sL := same_new (o := .lst [V.int 0]) nL
    have bL : LB (upd H1 L (.lst [V.int 0])) L [0] := upd_same
    generalize upd H1 L (.lst [V.int 0]) = H2 at *
    walk_at "go"
    refine g_Operation_actions T (oO.mono sL) ?_
    walk_at "go"
    refine w_ilist2 (.of (sL _ _ hus)) ?_
    refine w_loop walk_list (fun i σ' H' => Same H1 H' ∧ (∃ v, σ' = [some (.ref p), some (.int (kind : Int)), some (.ref hs), some (.ref ds), some (.ref o), some (.ref L), v]) ∧ LB H' L (0 :: (x.1.take i).flatMap Fm08.actTold))
      ⟨sL, ⟨_, rfl⟩, by simpa using bL⟩ (fun i σ' H' _ h => .of (h.1 _ _ hus)) ?_ ?_
    · rintro i z σ' H' H'' hi ⟨s, ⟨v, rfl⟩, bl⟩ ⟨rfl, hx⟩
      obtain ⟨c, hc⟩ : ∃ c, x.1[i]? = some c := ⟨x.1[i]'(by omega), by rw [List.getElem?_eq_getElem]⟩
      obtain ⟨z', hz', hA⟩ := al.get2 hc
      have ez : z = z' := by rw [hz'] at hx; exact (Option.some.inj hx).symm
      subst ez
      have h1 := bound (i + 1)
      have e1 := flat_snoc (f := Fm08.actTold) hc
      rw [e1, List.length_append] at h1
      rw [e1]
      cases c with
      | barrier =>
        cases (hA : z = .non)
        walk_at "go"
        rw [non_non]
        refine w_tt ?_
        walk_at "go"
        refine w_tyl bl ?_
        walk_at "go"
        refine x_appS (n := 0) s nL bl (by rw [List.length_cons]; show _ < 16777216; omega) fun H3 s3 b3 => ⟨s3, ⟨_, rfl⟩, b3⟩
      | write b y =>
        obtain ⟨t, rfl, u, e2, hu⟩ := hA.mono s
        walk_at "go"
        rw [ref_non]
        refine w_ff ?_
        walk_at "go"
        refine w_tyl bl ?_
        walk_at "go"
        refine w_ixT (.of e2) (atI_nat (j := 0) rfl) ?_
        walk_at "go"
        refine w_ixT (.of e2) (atI_nat (j := 1) rfl) ?_
        walk_at "go"
        refine ⟨u, y, rfl, LB.sq hu, ?_⟩
        walk_at "go"
        refine ⟨by show 2 ≤ sizeLine; decide, fun Z nZ => ?_⟩
        have sZ := same_new (o := .lst [V.int ((b : Int) + 1), V.int (Fm08.sum y : Nat)]) nZ
        have bZ : LB (upd H'' Z (.lst [V.int ((b : Int) + 1), V.int (Fm08.sum y : Nat)])) Z [b + 1, Fm08.sum y] := upd_same
        walk_at "go"
        refine x_ext (s.trans sZ) nL (bl.mono sZ) bZ (by rw [List.length_cons]; show _ + 2 ≤ 16777216; omega) fun H3 s3 b3 => ⟨s3, ⟨_, rfl⟩, b3⟩
    · rintro σ' H' ⟨s, ⟨v, rfl⟩, bl⟩
      rw [ul, List.take_length] at bl
      walk_at "go"
      exact q H' L (s1.trans s) (s1.free nL) (ints_li bl)
theorem ln_Drive_load (h : sp_Drive_load K a vs H Q E) : vs.length = 2 := by obtain ⟨p, md, B, W, d, r0, b, rfl, _⟩ := h; rfl
theorem pure_Drive_load (T : Tx K mg a) (h : sp_Drive_load K a vs H Q E) : t_Drive_load K a { nx := fun _ H' => Q .non H', rt := Q } (L2.start N_Drive_load vs) H := by
  obtain ⟨p, md, B, W, d, r0, b, rfl, hD, hr, bl, hb, q⟩ := h
  obtain ⟨kn, ⟨dD, oD⟩, _⟩ := hD.o
  have es : Fm08.spec d (.load b) = if b.length % 512 = 0 ∧ 8 ≤ b.length / 512 ∧ b.length / 512 ≤ 4096 then (Fm08.only 0, (⟨Fm08.blocksOf b, [], none⟩ : Fm08.Disk)) else (Fm08.only (-2), d) := rfl
  have neg : ¬ (b.length % 512 = 0 ∧ 8 ≤ b.length / 512 ∧ b.length / 512 ≤ 4096) → ∀ r, H r = none → Q (.ref r) (upd H r (.lst [V.int (-2)])) := fun h r nr => by
    rw [if_neg h] at es
    rw [es] at q
    have sr := same_new (o := .lst [V.int (-2)]) nr
    exact q _ md B W r (hD.mono sr) upd_same (Fr.same _ sr) (.inl nr)
  unfold t_Drive_load
  walk_at "go"
  refine w_len hr.sq ?_
  rw [il_len]
  walk_at "go"
  refine w_modK 512 rfl (by decide) ?_
  walk_at "go"
  refine w_ndec (fun c1 => ?_) (fun c1 => ?_)
  · refine w_tt ?_
    walk_at "go"
    exact ⟨by decide, fun r nr => neg (by omega) r nr⟩
  walk_at "go"
  refine w_len hr.sq ?_
  rw [il_len]
  walk_at "go"
  refine w_divK 512 rfl (by decide) (by decide) ?_
  walk_at "go"
  refine ⟨_, rfl, ?_⟩
  walk_at "go"
  refine w_ndec (fun c2 => ?_) (fun c2 => ?_)
  · walk_at "go"
    exact ⟨by decide, fun r nr => neg (by omega) r nr⟩
  have c : b.length % 512 = 0 ∧ 8 ≤ b.length / 512 ∧ b.length / 512 ≤ 4096 := by omega
  have din := load_in c hb
  rw [if_pos c] at es
  rw [es] at q
  walk_at "go"
  refine ⟨r0, b, b.length / 512, rfl, hr, by omega, by omega, fun H1 B2 s1 nB2 hB2 => ?_⟩
  rw [show chunks b (b.length / 512) = Fm08.blocksOf b from rfl] at hB2
  walk_at "go"
  refine mk_Medium fun M2 W2 H2 s2 nM nW oM hW => ?_
  walk_at "go"
  have s12 := s1.trans s2
  obtain ⟨as, eB, al⟩ := hB2
  have M0 : MedAt a H2 M2 B2 W2 (Fm08.blocksOf b) [] := ⟨oM, ⟨as, s2 _ _ eB, al.imp fun _ _ e => e.mono s2⟩, ⟨[], hW, trivial⟩, (ne_of_none eB nW).symm, din.mok.blk, by simp⟩
  have oD2 := s12 _ _ oD
  refine st_Drive_medium T ⟨dD, oD2⟩ fun H3 oD3 k3 => ?_
  walk_at "go"
  have M3 : MedAt a H3 M2 B2 W2 (Fm08.blocksOf b) [] := MedAt.keep1 k3 oD2 (by intro xs e; cases e) (by intro xs e; cases e) (by intro C dx v w e; exact fl_ne (HO.ins.inj e).2.2) M0
  obtain ⟨dD3, oD3'⟩ := oD3
  refine st_Drive_known T ⟨dD3, oD3'⟩ fun H4 oD4 k4 => ?_
  have M4 : MedAt a H4 M2 B2 W2 (Fm08.blocksOf b) [] := MedAt.keep1 k4 oD3' (by intro xs e; cases e) (by intro xs e; cases e) (by intro C dx v w e; exact fl_ne (HO.ins.inj e).2.2) M3
  walk_at "go"
  refine ⟨by decide, fun r nr => ?_⟩
  have sr := same_new (o := .lst [V.int 0]) nr
  have fr : Fr H H4 (DP p md B W) (DP p M2 B2 W2) := by
    have k : Keep [p] H H4 := ((Keep.of s12).trans k3).trans k4
    refine ⟨k.mono (by simp [DP]), fun b hb => ?_⟩
    simp only [DP, List.mem_cons, List.not_mem_nil, or_false] at hb ⊢
    rcases hb with e | e | e | e
    · exact .inl (.inl e)
    · exact .inr (by rw [e]; exact s1.free nM)
    · exact .inr (by rw [e]; exact nB2)
    · exact .inr (by rw [e]; exact s1.free nW)
  exact q _ M2 B2 W2 r ⟨⟨.non, O_Drive.mono sr oD4, rfl⟩, M4.mono sr⟩ upd_same (fr.trans (Fr.same _ sr)) (fr.back nr)
end
end Dk
namespace Dk
open PySem PySem.Spec PyProof.Rows L2
local macro_rules | `(tactic| walk_at "s1") => `(tactic| with_reducible first
  | refine w_seq ?_ | refine w_asg ?_ | refine w_drop ?_ | refine w_ret ?_ | refine w_retN ?_ | refine w_next ?_ | refine w_if ?_ | refine w_c ?_ | refine w_op ?_ | refine w_un ?_
  | refine w_fld ?_ | refine w_sfld ?_ | refine w_meth ?_ | refine w_call ?_ | refine w_cons ?_ | refine w_nil ?_ | refine w_cb ?_ | refine w_gname ?_ | refine w_lst ?_ | refine w_tup ?_
  | refine w_sl ?_ | refine w_nopart ?_ | refine w_part ?_ | refine w_parti ?_ | refine w_bm ?_ | refine w_test ?_ | refine w_tB ?_ | refine w_not ?_ | refine w_and_t ?_ | refine w_or_t ?_ | refine w_andV ?_ | refine w_orV ?_
  | refine w_for ?_ | refine w_ilist ?_ | refine w_rng1 ?_ | refine w_rev ?_ | refine w_istr ?_ | refine w_istr2 ?_ | refine w_zip ?_ | refine w_enum ?_ | refine w_lc ?_ | refine w_break ?_ | refine w_cont ?_ | refine w_dnew ?_
  | refine w_make ?_ | refine w_bl ?_ | refine w_isN ?_ | refine w_notN ?_ | refine w_neg ?_
  | refine w_add ?_ | refine w_sub ?_ | refine w_lt ?_ | refine w_le ?_ | refine w_gt ?_ | refine w_ge ?_ | refine w_eqI ?_ | refine w_neI ?_)
local macro_rules | `(tactic| walk_at "sv") => `(tactic| ((with_reducible refine' w_var ?hh ?_); (case hh => exact rfl)))
local macro_rules | `(tactic| walk_at "st") => `(tactic| first | walk_at "s1" | walk_at "sv")
local macro_rules | `(tactic| walk_at "go") => `(tactic| repeat' walk_at "st")
local macro_rules | `(tactic| walk_at "s1x") => `(tactic| with_reducible first
  | refine w_seq ?_ | refine w_asg ?_ | refine w_drop ?_ | refine w_ret ?_ | refine w_retN ?_ | refine w_next ?_ | refine w_c ?_ | refine w_op ?_ | refine w_un ?_
  | refine w_fld ?_ | refine w_sfld ?_ | refine w_meth ?_ | refine w_call ?_ | refine w_cons ?_ | refine w_nil ?_ | refine w_cb ?_ | refine w_gname ?_ | refine w_lst ?_ | refine w_tup ?_
  | refine w_sl ?_ | refine w_nopart ?_ | refine w_part ?_ | refine w_parti ?_ | refine w_bm ?_ | refine w_test ?_ | refine w_tB ?_ | refine w_not ?_ | refine w_and_t ?_ | refine w_or_t ?_ | refine w_andV ?_ | refine w_orV ?_
  | refine w_for ?_ | refine w_ilist ?_ | refine w_rng1 ?_ | refine w_rev ?_ | refine w_istr ?_ | refine w_istr2 ?_ | refine w_zip ?_ | refine w_enum ?_ | refine w_lc ?_ | refine w_break ?_ | refine w_cont ?_ | refine w_dnew ?_
  | refine w_make ?_ | refine w_bl ?_ | refine w_isN ?_ | refine w_notN ?_ | refine w_neg ?_
  | refine w_add ?_ | refine w_sub ?_ | refine w_lt ?_ | refine w_le ?_ | refine w_gt ?_ | refine w_ge ?_ | refine w_eqI ?_ | refine w_neI ?_)
local macro_rules | `(tactic| walk_at "gx") => `(tactic| repeat' first | walk_at "s1x" | walk_at "sv")
section
variable {K : PySem.W.Frag} {mg : Str → Option Value} {a : Ad} {vs : List V} {H H0 H1 : Hp} {Q : VK} {E : XK} {σ : L2.St}
theorem fst_told (d : Fm08.Disk) : (Fm08Neutral.step d [[((9 : Nat) : Int)]]).1 = d := by
  cases hu : d.up with
  | none => rw [step_told_none hu]
  | some u => rw [step_told_some hu]
theorem fst_block (d : Fm08.Disk) (b : Int) : (Fm08Neutral.step d [[((10 : Nat) : Int), b]]).1 = d := by
  by_cases c : Fm08.below b d.medium.length = true
  · rw [step_block_in c]
  · rw [step_block_out c]
theorem fst_look (d : Fm08.Disk) : (Fm08Neutral.step d [[((11 : Nat) : Int)]]).1 = d := by
  cases hu : Fm08.best d.medium with
  | none => rw [step_look_none hu]
  | some h => rw [step_look_some hu]
theorem fst_save (d : Fm08.Disk) : (Fm08Neutral.step d [[((12 : Nat) : Int)]]).1 = d := by rw [step_save]
theorem pure_call_arrive (T : Tx K mg a) (h : spCall K a 8 vs H Q E) : t_call_arrive K a { nx := fun _ H' => Q .non H', rt := Q } (L2.start N_call_arrive vs) H := by
  obtain ⟨dr, md, B, W, d, rd, c, i, ns, cl, t, rfl, hD, ok, hw, hr, hc, hp, hcl, hask, q⟩ := h
  obtain ⟨k, hk, hk2, rfl, rfl⟩ := c01 hp rfl hcl
  have ask : (((ns.drop (i + 2)).take k).all (fun z => Fm08Neutral.natural z 31) && decide (((ns.drop (i + 2)).take k).length ≤ 4096)) = true := hask
  simp only [Bool.and_eq_true, decide_eq_true_eq] at ask
  have n1 := nat_all ask.1
  obtain ⟨dR, oR⟩ := hr
  obtain ⟨kn, ⟨dD, oD⟩, _⟩ := hD.o
  unfold t_call_arrive
  walk_at "go"
  refine m_Drive_arrive ⟨dD, oD⟩ ?_
  walk_at "go"
  refine m_Reader_take_row ⟨dR, oR⟩ ?_
  walk_at "go"
  refine ⟨rd, c, i + 1, ns, k, rfl, ⟨dR, oR⟩, hc, hk, by omega, fun H1 r1 R1 k1 nr1 l1 => ?_⟩
  have hD1 := hD.keepR k1 ⟨dR, oR⟩ ok
  rw [show i + 1 + 1 + k = i + 2 + k by omega] at R1
  walk_at "go"
  refine ⟨dr, md, B, W, d, r1, _, rfl, hD1, ok.ok (by omega), l1.lb fun z hz => (n1 z hz).1, fun e => new_out hD nr1 (by rw [e]; simp [DP]), fun H2 r D2 l2 f2 n2 => ?_⟩
  rw [step_arrive] at q
  exact q H2 md B W r (i + 2 + k) rfl hk2 D2 l2 (R1.keep f2.k (rd_out R1 hD1)) ((fr_r k1).trans f2.cons) (back_r k1 n2)
theorem pure_call_told (T : Tx K mg a) (h : spCall K a 9 vs H Q E) : t_call_told K a { nx := fun _ H' => Q .non H', rt := Q } (L2.start N_call_told vs) H := by
  obtain ⟨dr, md, B, W, d, rd, c, i, ns, cl, t, rfl, hD, ok, hw, hr, hc, hp, hcl, hask, q⟩ := h
  obtain ⟨rfl, rfl⟩ := c00 hp rfl hcl
  obtain ⟨kn, ⟨dD, oD⟩, _⟩ := hD.o
  unfold t_call_told
  walk_at "go"
  refine m_Drive_told ⟨dD, oD⟩ ?_
  walk_at "go"
  refine ⟨dr, md, B, W, d, rfl, hD, ok.ok (by omega), fun H1 r s1 nr lr => ?_⟩
  refine q H1 md B W r (i + 1) rfl ?_ (by rw [fst_told d]; exact hD.mono s1) lr (O_Reader.mono s1 hr) (Fr.same _ s1) (.inl nr)
  have := (List.getElem?_eq_some_iff.mp hp).1
  omega
theorem pure_call_block (T : Tx K mg a) (h : spCall K a 10 vs H Q E) : t_call_block K a { nx := fun _ H' => Q .non H', rt := Q } (L2.start N_call_block vs) H := by
  obtain ⟨dr, md, B, W, d, rd, c, i, ns, cl, t, rfl, hD, ok, hw, hr, hc, hp, hcl, hask, q⟩ := h
  obtain ⟨k, hk, rfl, rfl⟩ := c10 hp rfl hcl
  obtain ⟨dR, oR⟩ := hr
  obtain ⟨kn, ⟨dD, oD⟩, _⟩ := hD.o
  unfold t_call_block
  walk_at "go"
  refine m_Drive_block ⟨dD, oD⟩ ?_
  walk_at "go"
  refine m_Reader_take ⟨dR, oR⟩ ?_
  walk_at "go"
  refine ⟨rd, c, i + 1, ns, k, rfl, ⟨dR, oR⟩, hc, hk, fun H1 r1 k1 => ?_⟩
  have hD1 := hD.keepR k1 ⟨dR, oR⟩ ok
  walk_at "go"
  refine ⟨dr, md, B, W, d, k, rfl, hD1, ok.ok (by omega), fun H2 r s2 nr l2 => ?_⟩
  refine q H2 md B W r (i + 2) rfl ?_ (by rw [fst_block d k]; exact hD1.mono s2) l2 (O_Reader.mono s2 r1) ((fr_r k1).trans (Fr.same _ s2)) (back_r k1 (.inl nr))
  have := (List.getElem?_eq_some_iff.mp hk).1
  omega
theorem pure_call_look (T : Tx K mg a) (h : spCall K a 11 vs H Q E) : t_call_look K a { nx := fun _ H' => Q .non H', rt := Q } (L2.start N_call_look vs) H := by
  obtain ⟨dr, md, B, W, d, rd, c, i, ns, cl, t, rfl, hD, ok, hw, hr, hc, hp, hcl, hask, q⟩ := h
  obtain ⟨rfl, rfl⟩ := c00 hp rfl hcl
  obtain ⟨kn, ⟨dD, oD⟩, _⟩ := hD.o
  unfold t_call_look
  walk_at "go"
  refine m_Drive_look ⟨dD, oD⟩ ?_
  walk_at "go"
  refine ⟨dr, md, B, W, d, rfl, hD, ok.ok (by omega), fun H1 r s1 nr lr => ?_⟩
  refine q H1 md B W r (i + 1) rfl ?_ (by rw [fst_look d]; exact hD.mono s1) lr (O_Reader.mono s1 hr) (Fr.same _ s1) (.inl nr)
  have := (List.getElem?_eq_some_iff.mp hp).1
  omega
theorem pure_call_save (T : Tx K mg a) (h : spCall K a 12 vs H Q E) : t_call_save K a { nx := fun _ H' => Q .non H', rt := Q } (L2.start N_call_save vs) H := by
  obtain ⟨dr, md, B, W, d, rd, c, i, ns, cl, t, rfl, hD, ok, hw, hr, hc, hp, hcl, hask, q⟩ := h
  obtain ⟨rfl, rfl⟩ := c00 hp rfl hcl
  obtain ⟨kn, ⟨dD, oD⟩, _⟩ := hD.o
  unfold t_call_save
  walk_at "go"
  refine m_Drive_save ⟨dD, oD⟩ ?_
  walk_at "go"
  refine ⟨dr, md, B, W, d, rfl, hD, ok.ok (by omega), fun H1 r s1 nr lr => ?_⟩
  refine q H1 md B W r (i + 1) rfl ?_ (by rw [fst_save d]; exact hD.mono s1) lr (O_Reader.mono s1 hr) (Fr.same _ s1) (.inl nr)
  have := (List.getElem?_eq_some_iff.mp hp).1
  omega
theorem step_load (d : Fm08.Disk) (b : List Int) : Fm08Neutral.step d [[((13 : Nat) : Int)], b] = ((Fm08.spec d (.load (Fm08Neutral.nats b))).2, [(Fm08.spec d (.load (Fm08Neutral.nats b))).1.v]) := by
  by_cases c : (Fm08Neutral.nats b).length % Fm08.SIZE = 0 ∧ 8 ≤ (Fm08Neutral.nats b).length / Fm08.SIZE ∧ (Fm08Neutral.nats b).length / Fm08.SIZE ≤ Fm08.LARGE
  · rw [step_load_in c]
    show _ = ((if _ then _ else _ : Fm08.Ans × Fm08.Disk).2, [(if _ then _ else _ : Fm08.Ans × Fm08.Disk).1.v])
    rw [if_pos c]; rfl
  · rw [step_load_out c]
    show _ = ((if _ then _ else _ : Fm08.Ans × Fm08.Disk).2, [(if _ then _ else _ : Fm08.Ans × Fm08.Disk).1.v])
    rw [if_neg c]; rfl
theorem pure_call_load (T : Tx K mg a) (h : spCall K a 13 vs H Q E) : t_call_load K a { nx := fun _ H' => Q .non H', rt := Q } (L2.start N_call_load vs) H := by
  obtain ⟨dr, md, B, W, d, rd, c, i, ns, cl, t, rfl, hD, ok, hw, hr, hc, hp, hcl, hask, q⟩ := h
  obtain ⟨k, hk, hk2, rfl, rfl⟩ := c01 hp rfl hcl
  have ask : (((ns.drop (i + 2)).take k).all (fun z => Fm08Neutral.natural z 8) && decide (((ns.drop (i + 2)).take k).length ≤ 131072)) = true := hask
  simp only [Bool.and_eq_true, decide_eq_true_eq] at ask
  have n1 := nat_all ask.1
  obtain ⟨dR, oR⟩ := hr
  obtain ⟨kn, ⟨dD, oD⟩, _⟩ := hD.o
  unfold t_call_load
  walk_at "go"
  refine m_Drive_load ⟨dD, oD⟩ ?_
  walk_at "go"
  refine m_Reader_take_row ⟨dR, oR⟩ ?_
  walk_at "go"
  refine ⟨rd, c, i + 1, ns, k, rfl, ⟨dR, oR⟩, hc, hk, by omega, fun H1 r1 R1 k1 nr1 l1 => ?_⟩
  have hD1 := hD.keepR k1 ⟨dR, oR⟩ ok
  rw [show i + 1 + 1 + k = i + 2 + k by omega] at R1
  walk_at "go"
  refine ⟨dr, md, B, W, d, r1, _, rfl, hD1, l1.lb fun z hz => (n1 z hz).1, by rw [nats_len]; exact Nat.le_trans ask.2 (by decide), nats_lt (b := 8) n1, fun H2 md' B' W' r D2 l2 f2 n2 => ?_⟩
  rw [step_load] at q
  exact q H2 md' B' W' r (i + 2 + k) rfl hk2 D2 l2 (R1.keep f2.k (rd_out R1 hD1)) ((fr_r k1).trans f2.cons) (back_r k1 n2)
theorem step_plan (d : Fm08.Disk) (k : Int) (ho bl : List Int) : Fm08Neutral.step d [[((14 : Nat) : Int), k], ho, bl] = (d, plAns (Fm08.plan d (Fm08Neutral.opOf k ho bl))) := by
  unfold plAns
  cases e : Fm08.plan d (Fm08Neutral.opOf k ho bl) with
  | mk z o => cases o with
    | none => exact step_plan_none e
    | some x => exact step_plan_some e
theorem pure_call_plan (T : Tx K mg a) (h : spCall K a 14 vs H Q E) : t_call_plan K a { nx := fun _ H' => Q .non H', rt := Q } (L2.start N_call_plan vs) H := by
  obtain ⟨dr, md, B, W, d, rd, c, i, ns, cl, t, rfl, hD, ok, hw, hr, hc, hp, hcl, hask, q⟩ := h
  obtain ⟨y, k, l, hy, hk, hk2, hl, hl2, rfl, rfl⟩ := c12 hp rfl hcl
  have ask : (Fm08Neutral.natural y 2 && (((((ns.drop (i + 3)).take k).all (fun z => Fm08Neutral.natural z 31) && decide (((ns.drop (i + 3)).take k).length ≤ 100)) &&
    (((ns.drop (i + 4 + k)).take l).all (fun z => Fm08Neutral.natural z 8) && decide (((ns.drop (i + 4 + k)).take l).length = 512 * ((ns.drop (i + 3)).take k).length))) && ((y == 0 || ((ns.drop (i + 3)).take k).isEmpty)))) = true := hask
  simp only [Bool.and_eq_true, decide_eq_true_eq] at ask
  obtain ⟨ay, ⟨⟨a1, a2⟩, a3, a4⟩, a5⟩ := ask
  have ny : 0 ≤ y ∧ y < 4 := by unfold Fm08Neutral.natural at ay; simp at ay; exact ⟨ay.1, by have := ay.2; omega⟩
  obtain ⟨dR, oR⟩ := hr
  unfold t_call_plan
  walk_at "go"
  refine m_Reader_take ⟨dR, oR⟩ ?_
  walk_at "go"
  refine ⟨rd, c, i + 1, ns, y, rfl, ⟨dR, oR⟩, hc, hy, fun H2 R2 k2 => ?_⟩
  have hc2 := SqL.keepR k2 ⟨dR, oR⟩ hc
  have hD2 := hD.keepR k2 ⟨dR, oR⟩ ok
  obtain ⟨dR2, oR2⟩ := R2
  walk_at "go"
  refine m_Reader_take_row ⟨dR2, oR2⟩ ?_
  walk_at "go"
  refine ⟨rd, c, i + 2, ns, k, rfl, ⟨dR2, oR2⟩, hc2, hk, by omega, fun H3 r3 R3 k3 n3 l3 => ?_⟩
  have hc3 := SqL.keepR k3 ⟨dR2, oR2⟩ hc2
  have hD3 := hD2.keepR k3 ⟨dR2, oR2⟩ ok
  rw [show i + 2 + 1 + k = i + 3 + k by omega] at R3
  obtain ⟨dR3, oR3⟩ := R3
  walk_at "go"
  refine m_Reader_take_row ⟨dR3, oR3⟩ ?_
  walk_at "go"
  refine ⟨rd, c, i + 3 + k, ns, l, rfl, ⟨dR3, oR3⟩, hc3, hl, by omega, fun H4 r4 R4 k4 n4 l4 => ?_⟩
  have hD4 := hD3.keepR k4 ⟨dR3, oR3⟩ ok
  have l3' := l3.keep k4 ⟨dR3, oR3⟩
  rw [show i + 3 + k + 1 + l = i + 4 + k + l by omega] at R4
  rw [show i + 3 + k + 1 = i + 4 + k by omega] at l4
  have k14 : Keep [rd] H H4 := (k2.trans k3).trans k4
  obtain ⟨kn, ⟨dD, oD⟩, _⟩ := hD4.o
  walk_at "go"
  refine m_Drive_plan ⟨dD, oD⟩ ?_
  walk_at "go"
  have ey : y = ((y.toNat : Nat) : Int) := by omega
  refine ⟨dr, md, B, W, d, y.toNat, r3, r4, _, _, by rw [← ey]; rfl, hD4, ok.ok (by omega), by omega, op_in l3' l4 a1 a2 a3 a4, fun H6 r s6 nr lr => ?_⟩
  have eo : opN y.toNat (Fm08Neutral.nats ((ns.drop (i + 3)).take k)) (Fm08Neutral.nats ((ns.drop (i + 4 + k)).take l)) = Fm08Neutral.opOf y ((ns.drop (i + 3)).take k) ((ns.drop (i + 4 + k)).take l) := by
    unfold opN Fm08Neutral.opOf
    rw [txn_eq]
    have : y = 0 ∨ y = 1 ∨ y = 2 ∨ y = 3 := by omega
    rcases this with z | z | z | z <;> subst z <;> rfl
  rw [eo] at lr
  rw [step_plan] at q
  exact q H6 md B W r (i + 4 + k + l) rfl hl2 (hD4.mono s6) lr (O_Reader.mono s6 R4) ((fr_r k14).trans (Fr.same _ s6)) (back_r k14 (.inl nr))
theorem pure_call_sum (T : Tx K mg a) (h : spCall K a 15 vs H Q E) : t_call_sum K a { nx := fun _ H' => Q .non H', rt := Q } (L2.start N_call_sum vs) H := by
  obtain ⟨dr, md, B, W, d, rd, c, i, ns, cl, t, rfl, hD, ok, hw, hr, hc, hp, hcl, hask, q⟩ := h
  obtain ⟨k, hk, hk2, rfl, rfl⟩ := c01 hp rfl hcl
  have ask : (((ns.drop (i + 2)).take k).all (fun z => Fm08Neutral.natural z 8) && decide (((ns.drop (i + 2)).take k).length ≤ 65536)) = true := hask
  simp only [Bool.and_eq_true, decide_eq_true_eq] at ask
  have n1 := nat_all ask.1
  obtain ⟨dR, oR⟩ := hr
  unfold t_call_sum
  walk_at "go"
  refine m_Reader_take_row ⟨dR, oR⟩ ?_
  walk_at "go"
  refine ⟨rd, c, i + 1, ns, k, rfl, ⟨dR, oR⟩, hc, hk, by omega, fun H1 r1 R1 k1 nr1 l1 => ?_⟩
  have hD1 := hD.keepR k1 ⟨dR, oR⟩ ok
  rw [show i + 1 + 1 + k = i + 2 + k by omega] at R1
  walk_at "go"
  refine ⟨r1, _, rfl, (l1.lb fun z hz => (n1 z hz).1).sq, ?_⟩
  walk_at "go"
  refine ⟨by show 1 ≤ sizeLine; decide, fun r nr => ?_⟩
  rw [step_sum] at q
  have sr := same_new (o := .lst [V.int (Fm08.sum (Fm08Neutral.nats ((ns.drop (i + 2)).take k)) : Nat)]) nr
  exact q _ md B W r (i + 2 + k) rfl hk2 (hD1.mono sr) upd_same (O_Reader.mono sr R1) ((fr_r k1).trans (Fr.same _ sr)) (back_r k1 (.inl nr))
end
end Dk
namespace Dk
open PySem PySem.Spec PyProof.Rows L2
/-! ### the table of the calls -/
def callsOf (a : Ad) : List Addr := [a.f_call_make, a.f_call_read, a.f_call_commit, a.f_call_flush, a.f_call_settle, a.f_call_mend, a.f_call_cut, a.f_call_cut_in, a.f_call_arrive, a.f_call_told, a.f_call_block, a.f_call_look, a.f_call_save, a.f_call_load, a.f_call_plan, a.f_call_sum]
def spTable (K : PySem.W.Frag) (a : Ad) (f : Addr) (sp : Sp) : Prop := ∃ p : Nat, (callsOf a)[p]? = some f ∧ sp = spCall K a p
theorem callsOf_len (a : Ad) : (callsOf a).length = 16 := rfl
abbrev sp_call_make (K : PySem.W.Frag) (a : Ad) : Sp := spCall K a 0
theorem ln_call_make {K : PySem.W.Frag} {a : Ad} {vs : List V} {H : Hp} {Q : VK} {E : XK} (h : sp_call_make K a vs H Q E) : vs.length = 2 := ln_call h
abbrev sp_call_read (K : PySem.W.Frag) (a : Ad) : Sp := spCall K a 1
theorem ln_call_read {K : PySem.W.Frag} {a : Ad} {vs : List V} {H : Hp} {Q : VK} {E : XK} (h : sp_call_read K a vs H Q E) : vs.length = 2 := ln_call h
abbrev sp_call_commit (K : PySem.W.Frag) (a : Ad) : Sp := spCall K a 2
theorem ln_call_commit {K : PySem.W.Frag} {a : Ad} {vs : List V} {H : Hp} {Q : VK} {E : XK} (h : sp_call_commit K a vs H Q E) : vs.length = 2 := ln_call h
abbrev sp_call_flush (K : PySem.W.Frag) (a : Ad) : Sp := spCall K a 3
theorem ln_call_flush {K : PySem.W.Frag} {a : Ad} {vs : List V} {H : Hp} {Q : VK} {E : XK} (h : sp_call_flush K a vs H Q E) : vs.length = 2 := ln_call h
abbrev sp_call_settle (K : PySem.W.Frag) (a : Ad) : Sp := spCall K a 4
theorem ln_call_settle {K : PySem.W.Frag} {a : Ad} {vs : List V} {H : Hp} {Q : VK} {E : XK} (h : sp_call_settle K a vs H Q E) : vs.length = 2 := ln_call h
abbrev sp_call_mend (K : PySem.W.Frag) (a : Ad) : Sp := spCall K a 5
theorem ln_call_mend {K : PySem.W.Frag} {a : Ad} {vs : List V} {H : Hp} {Q : VK} {E : XK} (h : sp_call_mend K a vs H Q E) : vs.length = 2 := ln_call h
abbrev sp_call_cut (K : PySem.W.Frag) (a : Ad) : Sp := spCall K a 6
theorem ln_call_cut {K : PySem.W.Frag} {a : Ad} {vs : List V} {H : Hp} {Q : VK} {E : XK} (h : sp_call_cut K a vs H Q E) : vs.length = 2 := ln_call h
abbrev sp_call_cut_in (K : PySem.W.Frag) (a : Ad) : Sp := spCall K a 7
theorem ln_call_cut_in {K : PySem.W.Frag} {a : Ad} {vs : List V} {H : Hp} {Q : VK} {E : XK} (h : sp_call_cut_in K a vs H Q E) : vs.length = 2 := ln_call h
abbrev sp_call_arrive (K : PySem.W.Frag) (a : Ad) : Sp := spCall K a 8
theorem ln_call_arrive {K : PySem.W.Frag} {a : Ad} {vs : List V} {H : Hp} {Q : VK} {E : XK} (h : sp_call_arrive K a vs H Q E) : vs.length = 2 := ln_call h
abbrev sp_call_told (K : PySem.W.Frag) (a : Ad) : Sp := spCall K a 9
theorem ln_call_told {K : PySem.W.Frag} {a : Ad} {vs : List V} {H : Hp} {Q : VK} {E : XK} (h : sp_call_told K a vs H Q E) : vs.length = 2 := ln_call h
abbrev sp_call_block (K : PySem.W.Frag) (a : Ad) : Sp := spCall K a 10
theorem ln_call_block {K : PySem.W.Frag} {a : Ad} {vs : List V} {H : Hp} {Q : VK} {E : XK} (h : sp_call_block K a vs H Q E) : vs.length = 2 := ln_call h
abbrev sp_call_look (K : PySem.W.Frag) (a : Ad) : Sp := spCall K a 11
theorem ln_call_look {K : PySem.W.Frag} {a : Ad} {vs : List V} {H : Hp} {Q : VK} {E : XK} (h : sp_call_look K a vs H Q E) : vs.length = 2 := ln_call h
abbrev sp_call_save (K : PySem.W.Frag) (a : Ad) : Sp := spCall K a 12
theorem ln_call_save {K : PySem.W.Frag} {a : Ad} {vs : List V} {H : Hp} {Q : VK} {E : XK} (h : sp_call_save K a vs H Q E) : vs.length = 2 := ln_call h
abbrev sp_call_load (K : PySem.W.Frag) (a : Ad) : Sp := spCall K a 13
theorem ln_call_load {K : PySem.W.Frag} {a : Ad} {vs : List V} {H : Hp} {Q : VK} {E : XK} (h : sp_call_load K a vs H Q E) : vs.length = 2 := ln_call h
abbrev sp_call_plan (K : PySem.W.Frag) (a : Ad) : Sp := spCall K a 14
theorem ln_call_plan {K : PySem.W.Frag} {a : Ad} {vs : List V} {H : Hp} {Q : VK} {E : XK} (h : sp_call_plan K a vs H Q E) : vs.length = 2 := ln_call h
abbrev sp_call_sum (K : PySem.W.Frag) (a : Ad) : Sp := spCall K a 15
theorem ln_call_sum {K : PySem.W.Frag} {a : Ad} {vs : List V} {H : Hp} {Q : VK} {E : XK} (h : sp_call_sum K a vs H Q E) : vs.length = 2 := ln_call h
end Dk
namespace Dk
open PySem PySem.Spec PyProof.Rows L2
local macro_rules | `(tactic| walk_at "s1") => `(tactic| with_reducible first
  | refine w_seq ?_ | refine w_asg ?_ | refine w_drop ?_ | refine w_ret ?_ | refine w_retN ?_ | refine w_next ?_ | refine w_if ?_ | refine w_c ?_ | refine w_op ?_ | refine w_un ?_
  | refine w_fld ?_ | refine w_sfld ?_ | refine w_meth ?_ | refine w_call ?_ | refine w_cons ?_ | refine w_nil ?_ | refine w_cb ?_ | refine w_gname ?_ | refine w_lst ?_ | refine w_tup ?_
  | refine w_sl ?_ | refine w_nopart ?_ | refine w_part ?_ | refine w_parti ?_ | refine w_bm ?_ | refine w_test ?_ | refine w_tB ?_ | refine w_not ?_ | refine w_and_t ?_ | refine w_or_t ?_ | refine w_andV ?_ | refine w_orV ?_
  | refine w_for ?_ | refine w_ilist ?_ | refine w_rng1 ?_ | refine w_rev ?_ | refine w_istr ?_ | refine w_istr2 ?_ | refine w_zip ?_ | refine w_enum ?_ | refine w_lc ?_ | refine w_break ?_ | refine w_cont ?_ | refine w_dnew ?_
  | refine w_make ?_ | refine w_bl ?_ | refine w_isN ?_ | refine w_notN ?_ | refine w_neg ?_
  | refine w_add ?_ | refine w_sub ?_ | refine w_lt ?_ | refine w_le ?_ | refine w_gt ?_ | refine w_ge ?_ | refine w_eqI ?_ | refine w_neI ?_)
local macro_rules | `(tactic| walk_at "sv") => `(tactic| ((with_reducible refine' w_var ?hh ?_); (case hh => exact rfl)))
local macro_rules | `(tactic| walk_at "st") => `(tactic| first | walk_at "s1" | walk_at "sv")
local macro_rules | `(tactic| walk_at "go") => `(tactic| repeat' walk_at "st")
local macro_rules | `(tactic| walk_at "s1x") => `(tactic| with_reducible first
  | refine w_seq ?_ | refine w_asg ?_ | refine w_drop ?_ | refine w_ret ?_ | refine w_retN ?_ | refine w_next ?_ | refine w_c ?_ | refine w_op ?_ | refine w_un ?_
  | refine w_fld ?_ | refine w_sfld ?_ | refine w_meth ?_ | refine w_call ?_ | refine w_cons ?_ | refine w_nil ?_ | refine w_cb ?_ | refine w_gname ?_ | refine w_lst ?_ | refine w_tup ?_
  | refine w_sl ?_ | refine w_nopart ?_ | refine w_part ?_ | refine w_parti ?_ | refine w_bm ?_ | refine w_test ?_ | refine w_tB ?_ | refine w_not ?_ | refine w_and_t ?_ | refine w_or_t ?_ | refine w_andV ?_ | refine w_orV ?_
  | refine w_for ?_ | refine w_ilist ?_ | refine w_rng1 ?_ | refine w_rev ?_ | refine w_istr ?_ | refine w_istr2 ?_ | refine w_zip ?_ | refine w_enum ?_ | refine w_lc ?_ | refine w_break ?_ | refine w_cont ?_ | refine w_dnew ?_
  | refine w_make ?_ | refine w_bl ?_ | refine w_isN ?_ | refine w_notN ?_ | refine w_neg ?_
  | refine w_add ?_ | refine w_sub ?_ | refine w_lt ?_ | refine w_le ?_ | refine w_gt ?_ | refine w_ge ?_ | refine w_eqI ?_ | refine w_neI ?_)
local macro_rules | `(tactic| walk_at "gx") => `(tactic| repeat' first | walk_at "s1x" | walk_at "sv")
/-! ### answers: the loop over the calls -/
def sp_answers (K : PySem.W.Frag) (a : Ad) : Sp := fun vs H Q _ => ∃ c ns, vs = [.ref c] ∧ SqL K H c (List.map V.int ns) ∧ PyFm08.answers_asked ns = true ∧ ∀ H' r, LI H' r (PyFm08.answers ns) → Q (.ref r) H'
section
variable {K : PySem.W.Frag} {mg : Str → Option Value} {a : Ad} {vs : List V} {H H0 H1 : Hp} {Q : VK} {E : XK} {σ : L2.St}
theorem ln_answers (h : sp_answers K a vs H Q E) : vs.length = 1 := by
  obtain ⟨c, ns, rfl, _⟩ := h; rfl
theorem calls_cons {ns : List Int} {i f : Nat} {p : Int} {cs : List (List (List Int))} (hp : ns[i]? = some p) (h : PyFlat.calls PyFm08.shape f (ns.drop i) = some cs) :
    ∃ cl t f' cs', cs = cl :: cs' ∧ PyFlat.call PyFm08.shape (ns.drop i) = some (cl, t) ∧ PyFlat.calls PyFm08.shape f' t = some cs' := by
  obtain ⟨hi, e⟩ := List.getElem?_eq_some_iff.mp hp
  rw [List.drop_eq_getElem_cons hi, e] at h ⊢
  cases f with
  | zero => cases h
  | succ f =>
    have h : (match PyFlat.call PyFm08.shape (p :: ns.drop (i + 1)) with
      | none => none
      | some (c, t) => match PyFlat.calls PyFm08.shape f t with
        | none => none
        | some cs => some (c :: cs)) = some cs := h
    cases e1 : PyFlat.call PyFm08.shape (p :: ns.drop (i + 1)) with
    | none => rw [e1] at h; cases h
    | some x =>
      obtain ⟨c, t⟩ := x
      rw [e1] at h
      dsimp only at h
      cases e2 : PyFlat.calls PyFm08.shape f t with
      | none => rw [e2] at h; cases h
      | some cs' => rw [e2] at h; exact ⟨c, t, f, cs', (Option.some.inj h).symm, rfl, e2⟩
theorem call_num {ns : List Int} {i : Nat} {p : Int} {cl : List (List Int)} {t : List Int} (hp : ns[i]? = some p) (h : PyFlat.call PyFm08.shape (ns.drop i) = some (cl, t)) : ∃ n : Nat, n < 16 ∧ p = (n : Int) := by
  obtain ⟨hi, e⟩ := List.getElem?_eq_some_iff.mp hp
  rw [List.drop_eq_getElem_cons hi, e] at h
  cases es : PyFm08.shape p with
  | none => rw [PyFlat.call, es] at h; cases h
  | some x => exact shape_some es
theorem calls_nil {f : Nat} {cs : List (List (List Int))} (h : PyFlat.calls PyFm08.shape f [] = some cs) : cs = [] := by
  cases f <;> exact (Option.some.inj h).symm
theorem whole_id (c : List (List Int)) : PyFm08.whole c = c := by unfold PyFm08.whole; split <;> rfl
theorem asked_parts {ns : List Int} (h : PyFm08.answers_asked ns = true) : ∃ cs, PyFlat.calls PyFm08.shape ns.length ns = some cs ∧ cs.length ≤ 400 ∧ (∀ cl ∈ cs, Fm08Neutral.asked1 cl = true) ∧
    PyFm08.answers ns = PyFlat.told (PyFlat.played Fm08Neutral.step Fm08Neutral.start cs) ∧ (PyFm08.answers ns).length ≤ 10000000 := by
  unfold PyFm08.answers_asked at h
  cases e : PyFlat.calls PyFm08.shape ns.length ns with
  | none => rw [e] at h; cases h
  | some cs =>
    rw [e] at h
    dsimp only at h
    simp only [Bool.and_eq_true] at h
    obtain ⟨⟨⟨⟨h1, h2⟩, h3⟩, h4⟩, h5⟩ := h
    have ew : cs.map PyFm08.whole = cs := by rw [List.map_congr_left (g := id) (fun x _ => whole_id x), List.map_id]
    rw [ew] at h4
    refine ⟨cs, rfl, of_decide_eq_true h2, ?_, ?_, of_decide_eq_true h5⟩
    · unfold Fm08Neutral.asked at h4
      simp only [Bool.and_eq_true] at h4
      exact fun cl m => List.all_eq_true.mp h4.1 cl m
    · unfold PyFm08.answers PyFm08.calls
      rw [e]
      dsimp only
      rw [ew]
theorem mk_Reader {c : Addr} (q : ∀ x H', Same H H' → H x = none → RdAt a H' x c 0 → Q (.ref x) H') : makev a.c_Reader (sp_Reader_init K a) E [.ref c] H Q :=
  fun x dx nx nd ne => ⟨x, dx, c, rfl, upd_same, fun H' r k => ⟨rfl, q x H' (made_same nx nd k) nx r⟩⟩
theorem mk_Drive (q : ∀ x md B W H', Same H H' → H x = none → DriveAt a H' x md B W Fm08.nothing → Q (.ref x) H') : makev a.c_Drive (sp_Drive_init K a) E [] H Q :=
  fun x dx nx nd ne => ⟨x, dx, rfl, upd_same, fun H' md B W d n k => ⟨rfl, q x md B W H' (made_same nx nd k) nx d⟩⟩
/-- the state ahead of a call: the list told kept apart -/
structure AnsI (a : Ad) (K : PySem.W.Frag) (H : Hp) (rd c dr md B W L : Addr) (i : Nat) (d : Fm08.Disk) (ns out : List Int) : Prop where
  D : DriveAt a (hide L H) dr md B W d
  R : RdAt a (hide L H) rd c i
  S : SqL K (hide L H) c (ns.map V.int)
  l : LI H L out
theorem hide_upd {L : Addr} {u : HO} : hide L (upd H L u) = hide L H := by
  funext b
  by_cases e : b = L
  · rw [e, hide_L, hide_L]
  · rw [hide_ne e, hide_ne e, upd_ne e]
theorem ns_cons {ns : List Int} {i : Nat} {p : Int} (h : ns[i]? = some p) : ∃ z zs, ns = z :: zs := by
  cases ns with
  | nil => cases h
  | cons z zs => exact ⟨z, zs, rfl⟩
theorem AnsI.took {rd c dr md B W L : Addr} {i : Nat} {d : Fm08.Disk} {ns out : List Int} (ok : DiskIn d) (h : AnsI a K H rd c dr md B W L i d ns out) (R : RdAt a H1 rd c (i + 1)) (k : Keep [rd] H H1) : AnsI a K H1 rd c dr md B W L (i + 1) d ns out := by
  have nL : rd ≠ L := fun e => by obtain ⟨dx, o⟩ := h.R; rw [e, hide_L] at o; cases o
  have kh : Keep [rd] (hide L H) (hide L H1) := hide_mono (k.mono (by simp))
  obtain ⟨dx, oR⟩ := R
  exact ⟨h.D.keepR kh h.R ok, ⟨dx, by rw [hide_ne nL]; exact oR⟩, SqL.keepR kh h.R h.S, k _ _ h.l (by simpa using Ne.symm nL)⟩
theorem rd_foreign {rd c : Addr} {i : Nat} (h : RdAt a H rd c i) : ∃ o, H rd = some o ∧ Foreign o := h.elim fun dx e => ⟨_, e, .inr (.inr (.inr ⟨_, _, _, _, rfl⟩))⟩
theorem AnsI.called {rd c dr md B W L md' B' W' r : Addr} {i i' : Nat} {d d' : Fm08.Disk} {ns out ans : List Int} {od : Obj} {p : Int} {H2 : Hp} (hp : ns[i]? = some p) (h : AnsI a K H rd c dr md B W L j d ns out)
    (D : DriveAt a H2 dr md' B' W' d') (hl : LI H2 r ans) (R : RdAt a H2 rd c i') (f : Fr (upd H L (.frz od (.lst (out.map V.int)))) H2 (rd :: DP dr md B W) (rd :: DP dr md' B' W')) :
    H2 L = some (.frz od (.lst (out.map V.int))) ∧ r ≠ L ∧ AnsI a K (upd H2 L (.lst (out.map V.int))) rd c dr md' B' W' L i' d' ns out ∧ LI (upd H2 L (.lst (out.map V.int))) r ans := by
  have hF : AllF (hide L H) (rd :: DP dr md B W) := fun q hq => by
    rcases List.mem_cons.mp hq with e | m
    · rw [e]; exact rd_foreign h.R
    · exact h.D.allF q m
  have nL : L ∉ rd :: DP dr md B W := fun m => by
    obtain ⟨o, e, _⟩ := hF L m
    rw [hide_L] at e; cases e
  have h2 : H2 L = some (.frz od (.lst (out.map V.int))) := f.k _ _ upd_same nL
  have nr : r ≠ L := fun e => by
    have e1 : H2 r = some (.lst (ans.map V.int)) := hl
    rw [e, h2] at e1; cases e1
  have nR : rd ≠ L := fun e => nL (by rw [← e]; exact List.mem_cons_self)
  refine ⟨h2, nr, ⟨?_, ?_, ?_, upd_same⟩, ?_⟩
  · rw [hide_upd]; exact D.keepZ keep_hide h2
  · rw [hide_upd]
    obtain ⟨dx, oR⟩ := R
    exact ⟨dx, by rw [hide_ne nR]; exact oR⟩
  · rw [hide_upd]
    obtain ⟨z, zs, rfl⟩ := ns_cons hp
    refine SqL.nf (F := rd :: DP dr md B W) (fun b o e n => ?_) hF h.S
    obtain ⟨n1, e1⟩ := hide_some e
    rw [hide_ne n1]
    exact f.k _ _ (by rw [upd_ne n1]; exact e1) n
  · show upd H2 L _ r = _
    rw [upd_ne nr]; exact hl
theorem AnsI.more {rd c dr md B W L : Addr} {i : Nat} {d : Fm08.Disk} {ns out out' : List Int} (h : AnsI a K H rd c dr md B W L i d ns out) : AnsI a K (upd H L (.lst (out'.map V.int))) rd c dr md B W L i d ns out' :=
  ⟨by rw [hide_upd]; exact h.D, by rw [hide_upd]; exact h.R, by rw [hide_upd]; exact h.S, upd_same⟩
end
end Dk
namespace Dk
open PySem PySem.Spec PyProof.Rows L2
def t_answers (K : PySem.W.Frag) (a : Ad) : TS :=
  (tSeq (tAsg (tMake a.c_Reader (sp_Reader_init K a) [] E0 (tCons (tVar 0) tNil)) (gName 1))
    (tSeq (tAsg (tMake a.c_Drive (sp_Drive_init K a) [] E0 tNil) (gName 2))
    (tSeq (tAsg (tLst tNil) (gName 3))
    (tSeq (tWhile (tNot (tB (tMeth a.c_Reader "is_at_end" (sp_Reader_is_at_end K a) [] E0 (tVar 1) tNil))) (tSeq (tAsg (tOp (rIxT K) (tC (V.ref a.k_CALLS)) (tMeth a.c_Reader "take" (sp_Reader_take K a) [] E0 (tVar 1) tNil)) (gName 4))
    (tSeq (tAsg (tLockE (tCallR 4 (spTable K a) (tCons (tVar 2) (tCons (tVar 1) tNil)))) (gName 5))
    (tSeq (tDrop (tBM K "list" rAppend (tVar 3) (tCons (tCB (rLen K) (tCons (tVar 5) tNil)) tNil)))
    (tDrop (tBM K "list" rExtend (tVar 3) (tCons (tVar 5) tNil)))))))
    (tRet (tVar 3))))))
end Dk
namespace Dk
open PySem PySem.Spec PyProof.Rows L2
local macro_rules | `(tactic| walk_at "s1") => `(tactic| with_reducible first
  | refine w_seq ?_ | refine w_asg ?_ | refine w_drop ?_ | refine w_ret ?_ | refine w_retN ?_ | refine w_next ?_ | refine w_if ?_ | refine w_c ?_ | refine w_op ?_ | refine w_un ?_
  | refine w_fld ?_ | refine w_sfld ?_ | refine w_meth ?_ | refine w_call ?_ | refine w_cons ?_ | refine w_nil ?_ | refine w_cb ?_ | refine w_gname ?_ | refine w_lst ?_ | refine w_tup ?_
  | refine w_sl ?_ | refine w_nopart ?_ | refine w_part ?_ | refine w_parti ?_ | refine w_bm ?_ | refine w_test ?_ | refine w_tB ?_ | refine w_not ?_ | refine w_and_t ?_ | refine w_or_t ?_ | refine w_andV ?_ | refine w_orV ?_
  | refine w_for ?_ | refine w_ilist ?_ | refine w_rng1 ?_ | refine w_rev ?_ | refine w_istr ?_ | refine w_istr2 ?_ | refine w_zip ?_ | refine w_enum ?_ | refine w_lc ?_ | refine w_break ?_ | refine w_cont ?_ | refine w_dnew ?_
  | refine w_make ?_ | refine w_bl ?_ | refine w_isN ?_ | refine w_notN ?_ | refine w_neg ?_
  | refine w_add ?_ | refine w_sub ?_ | refine w_lt ?_ | refine w_le ?_ | refine w_gt ?_ | refine w_ge ?_ | refine w_eqI ?_ | refine w_neI ?_)
local macro_rules | `(tactic| walk_at "sv") => `(tactic| ((with_reducible refine' w_var ?hh ?_); (case hh => exact rfl)))
local macro_rules | `(tactic| walk_at "st") => `(tactic| first | walk_at "s1" | walk_at "sv")
local macro_rules | `(tactic| walk_at "go") => `(tactic| repeat' walk_at "st")
local macro_rules | `(tactic| walk_at "s1x") => `(tactic| with_reducible first
  | refine w_seq ?_ | refine w_asg ?_ | refine w_drop ?_ | refine w_ret ?_ | refine w_retN ?_ | refine w_next ?_ | refine w_c ?_ | refine w_op ?_ | refine w_un ?_
  | refine w_fld ?_ | refine w_sfld ?_ | refine w_meth ?_ | refine w_call ?_ | refine w_cons ?_ | refine w_nil ?_ | refine w_cb ?_ | refine w_gname ?_ | refine w_lst ?_ | refine w_tup ?_
  | refine w_sl ?_ | refine w_nopart ?_ | refine w_part ?_ | refine w_parti ?_ | refine w_bm ?_ | refine w_test ?_ | refine w_tB ?_ | refine w_not ?_ | refine w_and_t ?_ | refine w_or_t ?_ | refine w_andV ?_ | refine w_orV ?_
  | refine w_for ?_ | refine w_ilist ?_ | refine w_rng1 ?_ | refine w_rev ?_ | refine w_istr ?_ | refine w_istr2 ?_ | refine w_zip ?_ | refine w_enum ?_ | refine w_lc ?_ | refine w_break ?_ | refine w_cont ?_ | refine w_dnew ?_
  | refine w_make ?_ | refine w_bl ?_ | refine w_isN ?_ | refine w_notN ?_ | refine w_neg ?_
  | refine w_add ?_ | refine w_sub ?_ | refine w_lt ?_ | refine w_le ?_ | refine w_gt ?_ | refine w_ge ?_ | refine w_eqI ?_ | refine w_neI ?_)
local macro_rules | `(tactic| walk_at "gx") => `(tactic| repeat' first | walk_at "s1x" | walk_at "sv")
section
variable {K : PySem.W.Frag} {mg : Str → Option Value} {a : Ad} {vs : List V} {H H0 H1 : Hp} {Q : VK} {E : XK} {σ : L2.St}
theorem pure_answers (T : Tx K mg a) (h : sp_answers K a vs H Q E) : t_answers K a { nx := fun _ H' => Q .non H', rt := Q } (L2.start N_answers vs) H := by
  have hall := callsOf_len a
  obtain ⟨c, ns, rfl, hc, hask, q⟩ := h
  obtain ⟨cs, hcs, hn, hone, hans, hlen⟩ := asked_parts hask
  unfold t_answers
  walk_at "go"
  refine mk_Reader fun rd Ha sa na Ra => ?_
  walk_at "go"
  refine mk_Drive fun dr md B W Hb sb nb Db => ?_
  walk_at "go"
  refine ⟨by decide, fun L nL => ?_⟩
  walk_at "go"
  refine w_while (fun m σ H' => ∃ (i f : Nat) (d : Fm08.Disk) (md B W : Addr) (out : List Int) (cs : List (List (List Int))) (x4 x5 : Option V), m = cs.length ∧ σ = [some (.ref c), some (.ref rd), some (.ref dr), some (.ref L), x4, x5] ∧
    AnsI a K H' rd c dr md B W L i d ns out ∧ DiskIn d ∧ d.way.length + 31 * m ≤ 12400 ∧ i ≤ ns.length ∧ PyFlat.calls PyFm08.shape f (ns.drop i) = some cs ∧ (∀ cl ∈ cs, Fm08Neutral.asked1 cl = true) ∧
    PyFm08.answers ns = out ++ PyFlat.told (PyFlat.played Fm08Neutral.step d cs)) ?_ ?_
  · refine ⟨cs.length, 0, ns.length, Fm08.nothing, md, B, W, [], cs, none, none, rfl, rfl, ?_, ?_, ?_, Nat.zero_le _, hcs, hone, hans⟩
    · have s3 := same_new (o := .lst []) nL
      have sh : Same Hb (hide L (upd Hb L (.lst []))) := fun b o e => by
        have n : b ≠ L := fun e2 => by rw [e2, nL] at e; cases e
        rw [hide_ne n, upd_ne n]; exact e
      exact ⟨Db.mono sh, (Ra.mono sb).mono sh, SqL.keep (F := []) (Keep.of ((sa.trans sb).trans sh)) (by simp) hc, upd_same⟩
    · exact nothing_in
    · show 0 + 31 * cs.length ≤ 12400
      omega
  rintro m σ H' ⟨i, f, d, md, B, W, out, cs, x4, x5, rfl, rfl, I, ok, hw, hi, hcs, hone, hans⟩
  obtain ⟨dR, oR⟩ := I.R.mono hide_same
  walk_at "go"
  refine m_Reader_is_at_end ⟨dR, oR⟩ ?_
  walk_at "go"
  refine ⟨rd, c, i, ns, rfl, ⟨dR, oR⟩, SqL.keep (F := []) (Keep.of hide_same) (by simp) I.S, ?_⟩
  walk_at "go"
  refine w_wbool (fun e => ?_) (fun e => ?_)
  · have hi' : i < ns.length := by
      have : ¬ i = ns.length := by simpa using e
      omega
    obtain ⟨pz, hp⟩ : ∃ z, ns[i]? = some z := ⟨_, List.getElem?_eq_getElem hi'⟩
    obtain ⟨cl, t, f', cs', rfl, hcl, hcs'⟩ := calls_cons hp hcs
    obtain ⟨p, h16, rfl⟩ := call_num hp hcl
    walk_at "go"
    refine m_Reader_take ⟨dR, oR⟩ ?_
    walk_at "go"
    refine ⟨rd, c, i, ns, _, rfl, ⟨dR, oR⟩, SqL.keep (F := []) (Keep.of hide_same) (by simp) I.S, hp, fun H1 R1 k1 => ?_⟩
    have I1 := I.took ok R1 k1
    obtain ⟨fa, hfa⟩ : ∃ z, (callsOf a)[p]? = some z := ⟨_, List.getElem?_eq_getElem (by omega)⟩
    refine w_ixT (T.t_CALLS H1) (at_of rfl (show ((callsOf a).map V.ref)[p]? = some (V.ref fa) by simp [hfa])) ?_
    walk_at "go"
    refine ⟨L, _, I1.l, trivial, fun od => ⟨fa, spCall K a p, rfl, ⟨p, hfa, rfl⟩, ?_⟩⟩
    walk_at "go"
    have sl : Same (hide L H1) (upd H1 L (.frz od (.lst (out.map V.int)))) := same_lock
    refine ⟨dr, md, B, W, d, rd, c, i, ns, cl, t, rfl, I1.D.mono sl, ok, by omega, I1.R.mono sl, SqL.keep (F := []) (Keep.of sl) (by simp) I1.S, hp, hcl, hone _ List.mem_cons_self, fun H2 md' B' W' r i' ht hi' D2 l2 R2 f2 _ => ?_⟩
    obtain ⟨hL2, nr, I3, l3⟩ := I1.called hp D2 l2 R2 f2
    refine ⟨hL2, ?_⟩
    obtain ⟨okd, wd⟩ := step_in ok (by omega) (hone _ List.mem_cons_self)
    have hlen2 : out.length + ((Fm08Neutral.step d cl).2.length + 1) ≤ 10000000 := by
      rw [hans] at hlen
      have e : PyFlat.played Fm08Neutral.step d (cl :: cs') = (Fm08Neutral.step d cl).2 :: PyFlat.played Fm08Neutral.step (Fm08Neutral.step d cl).1 cs' := rfl
      rw [e, told_cons] at hlen
      simp only [List.length_append, List.length_cons] at hlen
      omega
    walk_at "go"
    refine w_tyl I3.l ?_
    walk_at "go"
    refine w_len (.of l3) ?_
    rw [List.length_map]
    walk_at "go"
    refine w_app I3.l (by rw [List.length_map]; unfold sizeLine; omega) ?_
    have eo : (out.map V.int ++ [V.int ((Fm08Neutral.step d cl).2.length : Int)]) = (out ++ [((Fm08Neutral.step d cl).2.length : Int)]).map V.int := by simp
    rw [eo]
    have I4 := I3.more (out' := out ++ [((Fm08Neutral.step d cl).2.length : Int)])
    walk_at "go"
    refine w_tyl I4.l ?_
    walk_at "go"
    refine w_ext I4.l (by rw [upd_ne nr]; exact l3) (by simp only [List.length_map, List.length_append, List.length_cons, List.length_nil]; unfold sizeLine; omega) ?_
    rw [← List.map_append]
    have I5 := I4.more (out' := out ++ [((Fm08Neutral.step d cl).2.length : Int)] ++ (Fm08Neutral.step d cl).2)
    walk_at "go"
    refine ⟨cs'.length, by simp, i', f', _, md', B', W', _, cs', _, _, rfl, rfl, I5, okd, by simp only [List.length_cons] at hw; omega, hi', by rw [← ht]; exact hcs', fun x m => hone x (List.mem_cons_of_mem _ m), ?_⟩
    rw [hans]
    have e : PyFlat.played Fm08Neutral.step d (cl :: cs') = (Fm08Neutral.step d cl).2 :: PyFlat.played Fm08Neutral.step (Fm08Neutral.step d cl).1 cs' := rfl
    rw [e, told_cons]
    simp
  · have e1 : i = ns.length := by simpa using e
    subst e1
    rw [List.drop_length] at hcs
    cases calls_nil hcs
    walk_at "go"
    refine q _ _ ?_
    rw [hans]
    show H' L = some (.lst ((out ++ []).map V.int))
    rw [List.append_nil]
    exact I.l
end
end Dk
namespace Dk
open PySem PySem.Spec PyProof.Rows L2
section
variable {P : Program} {w : World} {K : PySem.W.Frag} {mg : Str → Option Value} {base : Heap} {a : Ad}
theorem ok_Shape_init (T : Tx K mg a) : FnOk P w K mg base CX0 1 a.f_Shape_init a.d_Shape_init ["self", "block_count", "place_count"] (sp_Shape_init K a) := by
  refine T.Shape_init.F.ok sc_Shape_init (fun vs H Q E h => ln_Shape_init h) (fun cdv A outer s H vs Q E hr h => ⟨t_Shape_init K a, ?_, pure_Shape_init T h⟩)
  exact (pss_cons (ps_fld (pv 0) (pv 1) rfl)
    (pss_cons (ps_fld (pv 0) (pv 2) rfl)
    (pss_one (ps_fld (pv 0) (pe_op op_sub (pe_op op_sub (pv 1) (pv 2)) pe_int) rfl))))
theorem ok_Shape_block_of_home (T : Tx K mg a) : FnOk P w K mg base CX0 1 a.f_Shape_block_of_home a.d_Shape_block_of_home ["self", "home"] (sp_Shape_block_of_home K a) := by
  refine T.Shape_block_of_home.F.ok sc_Shape_block_of_home (fun vs H Q E h => ln_Shape_block_of_home h) (fun cdv A outer s H vs Q E hr h => ⟨t_Shape_block_of_home K a, ?_, pure_Shape_block_of_home T h⟩)
  exact (pss_one (ps_ret (pe_op op_add (pe_op op_add (pe_fld (pv 0) rfl) pe_int) (pv 1))))
theorem ok_Shape_block_of_place (T : Tx K mg a) : FnOk P w K mg base CX0 1 a.f_Shape_block_of_place a.d_Shape_block_of_place ["self", "place"] (sp_Shape_block_of_place K a) := by
  refine T.Shape_block_of_place.F.ok sc_Shape_block_of_place (fun vs H Q E h => ln_Shape_block_of_place h) (fun cdv A outer s H vs Q E hr h => ⟨t_Shape_block_of_place K a, ?_, pure_Shape_block_of_place T h⟩)
  exact (pss_one (ps_ret (pe_op op_add pe_int (pe_op op_modN (pv 1) (pe_fld (pv 0) rfl)))))
theorem ok_Head_init (T : Tx K mg a) : FnOk P w K mg base CX0 1 a.f_Head_init a.d_Head_init ["self", "generation", "shape", "number", "place"] (sp_Head_init K a) := by
  refine T.Head_init.F.ok sc_Head_init (fun vs H Q E h => ln_Head_init h) (fun cdv A outer s H vs Q E hr h => ⟨t_Head_init K a, ?_, pure_Head_init T h⟩)
  exact (pss_cons (ps_fld (pv 0) (pv 1) rfl)
    (pss_cons (ps_fld (pv 0) (pv 2) rfl)
    (pss_cons (ps_fld (pv 0) (pv 3) rfl)
    (pss_one (ps_fld (pv 0) (pv 4) rfl)))))
theorem ok_Transaction_init (T : Tx K mg a) : FnOk P w K mg base CX0 1 a.f_Transaction_init a.d_Transaction_init ["self", "homes", "blocks"] (sp_Transaction_init K a) := by
  refine T.Transaction_init.F.ok sc_Transaction_init (fun vs H Q E h => ln_Transaction_init h) (fun cdv A outer s H vs Q E hr h => ⟨t_Transaction_init K a, ?_, pure_Transaction_init T h⟩)
  exact (pss_cons (ps_fld (pv 0) (pv 1) rfl)
    (pss_one (ps_fld (pv 0) (pv 2) rfl)))
theorem ok_Found_init (T : Tx K mg a) : FnOk P w K mg base CX0 1 a.f_Found_init a.d_Found_init ["self", "head", "transactions", "place"] (sp_Found_init K a) := by
  refine T.Found_init.F.ok sc_Found_init (fun vs H Q E h => ln_Found_init h) (fun cdv A outer s H vs Q E hr h => ⟨t_Found_init K a, ?_, pure_Found_init T h⟩)
  exact (pss_cons (ps_fld (pv 0) (pv 1) rfl)
    (pss_cons (ps_fld (pv 0) (pv 2) rfl)
    (pss_one (ps_fld (pv 0) (pv 3) rfl))))
theorem ok_Medium_init (T : Tx K mg a) : FnOk P w K mg base CX0 1 a.f_Medium_init a.d_Medium_init ["self", "blocks"] (sp_Medium_init K a) := by
  refine T.Medium_init.F.ok sc_Medium_init (fun vs H Q E h => ln_Medium_init h) (fun cdv A outer s H vs Q E hr h => ⟨t_Medium_init K a, ?_, pure_Medium_init T h⟩)
  exact (pss_cons (ps_fld (pv 0) (pv 1) rfl)
    (pss_one (ps_fld (pv 0) (pe_lst pa_nil) rfl)))
theorem ok_Medium_wait (T : Tx K mg a) : FnOk P w K mg base CX0 1 a.f_Medium_wait a.d_Medium_wait ["self"] (sp_Medium_wait K a) := by
  refine T.Medium_wait.F.ok sc_Medium_wait (fun vs H Q E h => ln_Medium_wait h) (fun cdv A outer s H vs Q E hr h => ⟨t_Medium_wait K a, ?_, pure_Medium_wait T h⟩)
  exact (pss_cons (ps_for PassesOwn.never rfl (pi_list (pe_fld (pv 0) rfl)) (pg_tup rfl (pgs_cons (pg_name (i := 1) sc_Medium_wait.nd rfl (Or.inl rfl)) (pgs_cons (pg_name (i := 2) sc_Medium_wait.nd rfl (Or.inl rfl)) pgs_nil))) (pss_one (ps_asg (pv 2) (pg_sub (pe_fld (pv 0) rfl) (pv 1) set_list))))
    (pss_one (ps_fld (pv 0) (pe_lst pa_nil) rfl)))
theorem ok_Medium_act (T : Tx K mg a) : FnOk P w K mg base CX0 2 a.f_Medium_act a.d_Medium_act ["self", "action"] (sp_Medium_act K a) := by
  refine T.Medium_act.F.ok sc_Medium_act (fun vs H Q E h => ln_Medium_act h) (fun cdv A outer s H vs Q E hr h => ⟨t_Medium_act K a, ?_, pure_Medium_act T h⟩)
  exact (pss_one (ps_if (pt_cmpR op_isN (pv 1) pe_non (nomark _)) (pss_one (ps_expr (pe_meth0 (pv 0) T.c_Medium.cl T.Medium_wait.m (ok_Medium_wait T) (hr.mono (by decide)) T.Medium_wait.b .nil pass0))) (pss_one (ps_expr (pe_bm PySem.F.plainAttrs_list PySem.F.slot_list_append PySem.F.type_list_append mt_append (pe_fld (pv 0) rfl) (pa_cons (pv 1) pa_nil))))))
theorem ok_Medium_put_first_bytes (T : Tx K mg a) : FnOk P w K mg base CX0 1 a.f_Medium_put_first_bytes a.d_Medium_put_first_bytes ["self", "write", "size"] (sp_Medium_put_first_bytes K a) := by
  refine T.Medium_put_first_bytes.F.ok sc_Medium_put_first_bytes (fun vs H Q E h => ln_Medium_put_first_bytes h) (fun cdv A outer s H vs Q E hr h => ⟨t_Medium_put_first_bytes K a, ?_, pure_Medium_put_first_bytes T h⟩)
  exact (pss_cons (ps_set (i := 3) sc_Medium_put_first_bytes.nd rfl (Or.inl rfl) (pe_ix ix_tup (pv 1) pe_int (fun _ _ => rfl)))
    (pss_one (ps_asg (pe_op op_cat (pe_slice sl_list (pe_ix ix_tup (pv 1) pe_int (fun _ _ => rfl)) po_none (po_some (pv 2))) (pe_slice sl_list (pe_ix ix_list (pe_fld (pv 0) rfl) (pv 3) (fun _ _ => rfl)) (po_some (pv 2)) po_none)) (pg_sub (pe_fld (pv 0) rfl) (pv 3) set_list))))
theorem ok_Medium_arrive (T : Tx K mg a) : FnOk P w K mg base CX0 2 a.f_Medium_arrive a.d_Medium_arrive ["self", "row"] (sp_Medium_arrive K a) := by
  refine T.Medium_arrive.F.ok sc_Medium_arrive (fun vs H Q E h => ln_Medium_arrive h) (fun cdv A outer s H vs Q E hr h => ⟨t_Medium_arrive K a, ?_, pure_Medium_arrive T h⟩)
  exact (pss_one (ps_for PassesOwn.never rfl (pi_list (pv 1)) (pg_name (i := 2) sc_Medium_arrive.nd rfl (Or.inl rfl)) (pss_cons (ps_set (i := 3) sc_Medium_arrive.nd rfl (Or.inl rfl) (pe_op op_fdivN (pv 2) pe_int))
    (pss_one (ps_if (pt_cmpR op_lt (pv 3) (pe_callB call_len (by rfl) (T.bu "len" (by decide)) (by decide +kernel) (pa_cons (pe_fld (pv 0) rfl) pa_nil)) (nomark _)) (pss_one (ps_expr (pe_meth (pv 0) T.c_Medium.cl T.Medium_put_first_bytes.m (ok_Medium_put_first_bytes T) (hr.mono (by decide)) T.Medium_put_first_bytes.b .nil pass0 (pa_cons (pe_ix ix_list (pe_fld (pv 0) rfl) (pv 3) (fun _ _ => rfl)) (pa_cons (pe_callB (call_min2 rfl) (by rfl) (T.bu "min" (by decide)) (by decide +kernel) (pa_cons (pe_op op_modN (pv 2) pe_int) (pa_cons (pe_gl rfl T.k_BLOCK_SIZE) pa_nil))) pa_nil))))) pss_nil)))))
theorem ok_Medium_lose (T : Tx K mg a) : FnOk P w K mg base CX0 1 a.f_Medium_lose a.d_Medium_lose ["self"] (sp_Medium_lose K a) := by
  refine T.Medium_lose.F.ok sc_Medium_lose (fun vs H Q E h => ln_Medium_lose h) (fun cdv A outer s H vs Q E hr h => ⟨t_Medium_lose K a, ?_, pure_Medium_lose T h⟩)
  exact (pss_one (ps_fld (pv 0) (pe_lst pa_nil) rfl))
theorem ok_Known_init (T : Tx K mg a) : FnOk P w K mg base CX0 1 a.f_Known_init a.d_Known_init ["self", "head"] (sp_Known_init K a) := by
  refine T.Known_init.F.ok sc_Known_init (fun vs H Q E h => ln_Known_init h) (fun cdv A outer s H vs Q E hr h => ⟨t_Known_init K a, ?_, pure_Known_init T h⟩)
  exact (pss_cons (ps_fld (pv 0) (pv 1) rfl)
    (pss_cons (ps_fld (pv 0) (pe_fld (pv 1) rfl) rfl)
    (pss_cons (ps_fld (pv 0) (pe_fld (pv 1) rfl) rfl)
    (pss_cons (ps_fld (pv 0) pe_int rfl)
    (pss_one (ps_fld (pv 0) pe_dnewK rfl))))))
theorem ok_Operation_init (T : Tx K mg a) : FnOk P w K mg base CX0 1 a.f_Operation_init a.d_Operation_init ["self", "answer", "actions", "known"] (sp_Operation_init K a) := by
  refine T.Operation_init.F.ok sc_Operation_init (fun vs H Q E h => ln_Operation_init h) (fun cdv A outer s H vs Q E hr h => ⟨t_Operation_init K a, ?_, pure_Operation_init T h⟩)
  exact (pss_cons (ps_fld (pv 0) (pv 1) rfl)
    (pss_cons (ps_fld (pv 0) (pv 2) rfl)
    (pss_one (ps_fld (pv 0) (pv 3) rfl))))
theorem ok_Drive_init (T : Tx K mg a) : FnOk P w K mg base CX0 3 a.f_Drive_init a.d_Drive_init ["self"] (sp_Drive_init K a) := by
  refine T.Drive_init.F.ok sc_Drive_init (fun vs H Q E h => ln_Drive_init h) (fun cdv A outer s H vs Q E hr h => ⟨t_Drive_init K a, ?_, pure_Drive_init T h⟩)
  exact (pss_cons (ps_fld (pv 0) (pe_make T.c_Medium.mkc (ok_Medium_init T) (hr.mono (by decide)) rfl T.c_Medium.g T.Medium_init.b .nil pass0 (pa_cons (pe_lst pa_nil) pa_nil)) rfl)
    (pss_one (ps_fld (pv 0) pe_non rfl)))
theorem ok_block_count_is_allowed (T : Tx K mg a) : FnOk P w K mg base CX0 1 a.f_block_count_is_allowed a.d_block_count_is_allowed ["block_count"] (sp_block_count_is_allowed K a) := by
  refine T.block_count_is_allowed.F.ok sc_block_count_is_allowed (fun vs H Q E h => ln_block_count_is_allowed h) (fun cdv A outer s H vs Q E hr h => ⟨t_block_count_is_allowed K a, ?_, pure_block_count_is_allowed T h⟩)
  exact (pss_one (ps_ret (pe_and (pe_cmpR op_ge (pv 0) pe_int (nomark _)) (pe_one (pe_cmpR op_le (pv 0) pe_int (nomark _))))))
theorem ok_shape_is_allowed (T : Tx K mg a) : FnOk P w K mg base CX0 2 a.f_shape_is_allowed a.d_shape_is_allowed ["block_count", "place_count"] (sp_shape_is_allowed K a) := by
  refine T.shape_is_allowed.F.ok sc_shape_is_allowed (fun vs H Q E h => ln_shape_is_allowed h) (fun cdv A outer s H vs Q E hr h => ⟨t_shape_is_allowed K a, ?_, pure_shape_is_allowed T h⟩)
  exact (pss_cons (ps_if (pt_not (pt_val (pe_call (ok_block_count_is_allowed T) (hr.mono (by decide)) rfl T.block_count_is_allowed.g T.block_count_is_allowed.F.kp T.block_count_is_allowed.b .nil pass0 (pa_cons (pv 0) pa_nil)))) (pss_one (ps_ret pe_bl)) pss_nil)
    (pss_one (ps_ret (pe_and (pe_cmpR op_ge (pv 1) pe_int (nomark _)) (pe_one (pe_cmpR op_le (pv 1) (pe_op op_sub (pv 0) pe_int) (nomark _)))))))
theorem ok_letters (T : Tx K mg a) : FnOk P w K mg base CX0 1 a.f_letters a.d_letters ["word"] (sp_letters K a) := by
  refine T.letters.F.ok sc_letters (fun vs H Q E h => ln_letters h) (fun cdv A outer s H vs Q E hr h => ⟨t_letters K a, ?_, pure_letters T h⟩)
  exact (pss_one (ps_ret (pe_lc (own := [("letter", 1)]) rfl sc_letters.nd (pi_str (pv 0)) (blkOk_by (own := [("letter", 1)]) (N := N_letters) (sc := defScope s_letters) (by decide +kernel)) (fun _ _ _ _ _ => pg_name (i := 1) sc_letters.nd rfl (Or.inl rfl)) (fun _ _ _ _ _ => pts_nil) (fun _ _ _ _ _ => (pe_callB call_ord (by rfl) (T.bu "ord" (by decide)) (by decide +kernel) (pa_cons (pv 1) pa_nil))))))
theorem ok_number_bytes (T : Tx K mg a) : FnOk P w K mg base CX0 1 a.f_number_bytes a.d_number_bytes ["value", "size"] (sp_number_bytes K a) := by
  refine T.number_bytes.F.ok sc_number_bytes (fun vs H Q E h => ln_number_bytes h) (fun cdv A outer s H vs Q E hr h => ⟨t_number_bytes K a, ?_, pure_number_bytes T h⟩)
  exact (pss_one (ps_ret (pe_lc (own := [("k", 2)]) rfl sc_number_bytes.nd (pi_range1 rfl (T.bu "range" (by decide)) (pa_cons (pv 1) pa_nil)) (blkOk_by (own := [("k", 2)]) (N := N_number_bytes) (sc := defScope s_number_bytes) (by decide +kernel)) (fun _ _ _ _ _ => pg_name (i := 2) sc_number_bytes.nd rfl (Or.inl rfl)) (fun _ _ _ _ _ => pts_nil) (fun _ _ _ _ _ => (pe_op op_and (pe_op op_shr (pv 0) (pe_op op_mul pe_int (pv 2))) pe_int)))))
theorem ok_sum_of (T : Tx K mg a) : FnOk P w K mg base CX0 1 a.f_sum_of a.d_sum_of ["data"] (sp_sum_of K a) := by
  refine T.sum_of.F.ok sc_sum_of (fun vs H Q E h => ln_sum_of h) (fun cdv A outer s H vs Q E hr h => ⟨t_sum_of K a, ?_, pure_sum_of T h⟩)
  exact (pss_cons (ps_set (i := 1) sc_sum_of.nd rfl (Or.inl rfl) (pe_gl rfl T.k_ALL_ONES))
    (pss_cons (ps_for PassesOwn.never rfl (pi_list (pv 0)) (pg_name (i := 2) sc_sum_of.nd rfl (Or.inl rfl)) (pss_cons (ps_set (i := 1) sc_sum_of.nd rfl (Or.inl rfl) (pe_op op_xor (pv 1) (pv 2)))
    (pss_cons (ps_set (i := 1) sc_sum_of.nd rfl (Or.inl rfl) (pe_op op_xor (pe_op op_shr (pv 1) pe_int) (pe_ix ix_tup (pe_gl rfl T.k_FOUR_STEPS) (pe_op op_and (pv 1) pe_int) (fun _ _ => rfl))))
    (pss_one (ps_set (i := 1) sc_sum_of.nd rfl (Or.inl rfl) (pe_op op_xor (pe_op op_shr (pv 1) pe_int) (pe_ix ix_tup (pe_gl rfl T.k_FOUR_STEPS) (pe_op op_and (pv 1) pe_int) (fun _ _ => rfl))))))))
    (pss_one (ps_ret (pe_op op_xor (pv 1) (pe_gl rfl T.k_ALL_ONES))))))
theorem ok_head_block (T : Tx K mg a) : FnOk P w K mg base CX0 2 a.f_head_block a.d_head_block ["head"] (sp_head_block K a) := by
  refine T.head_block.F.ok sc_head_block (fun vs H Q E h => ln_head_block h) (fun cdv A outer s H vs Q E hr h => ⟨t_head_block K a, ?_, pure_head_block T h⟩)
  exact (pss_cons (ps_set (i := 1) sc_head_block.nd rfl (Or.inl rfl) (pe_op op_cat (pe_call (ok_letters T) (hr.mono (by decide)) rfl T.letters.g T.letters.F.kp T.letters.b .nil pass0 (pa_cons pe_str pa_nil)) (pe_call (ok_number_bytes T) (hr.mono (by decide)) rfl T.number_bytes.g T.number_bytes.F.kp T.number_bytes.b .nil pass0 (pa_cons (pe_fld (pv 0) rfl) (pa_cons pe_int pa_nil)))))
    (pss_cons (ps_expr (pe_bm PySem.F.plainAttrs_list PySem.F.slot_list_extend PySem.F.type_list_extend mt_extend (pv 1) (pa_cons (pe_call (ok_number_bytes T) (hr.mono (by decide)) rfl T.number_bytes.g T.number_bytes.F.kp T.number_bytes.b .nil pass0 (pa_cons (pe_fld (pe_fld (pv 0) rfl) rfl) (pa_cons pe_int pa_nil))) pa_nil)))
    (pss_cons (ps_expr (pe_bm PySem.F.plainAttrs_list PySem.F.slot_list_extend PySem.F.type_list_extend mt_extend (pv 1) (pa_cons (pe_call (ok_number_bytes T) (hr.mono (by decide)) rfl T.number_bytes.g T.number_bytes.F.kp T.number_bytes.b .nil pass0 (pa_cons (pe_fld (pe_fld (pv 0) rfl) rfl) (pa_cons pe_int pa_nil))) pa_nil)))
    (pss_cons (ps_expr (pe_bm PySem.F.plainAttrs_list PySem.F.slot_list_extend PySem.F.type_list_extend mt_extend (pv 1) (pa_cons (pe_call (ok_number_bytes T) (hr.mono (by decide)) rfl T.number_bytes.g T.number_bytes.F.kp T.number_bytes.b .nil pass0 (pa_cons (pe_fld (pv 0) rfl) (pa_cons pe_int pa_nil))) pa_nil)))
    (pss_cons (ps_expr (pe_bm PySem.F.plainAttrs_list PySem.F.slot_list_extend PySem.F.type_list_extend mt_extend (pv 1) (pa_cons (pe_call (ok_number_bytes T) (hr.mono (by decide)) rfl T.number_bytes.g T.number_bytes.F.kp T.number_bytes.b .nil pass0 (pa_cons (pe_fld (pv 0) rfl) (pa_cons pe_int pa_nil))) pa_nil)))
    (pss_cons (ps_expr (pe_bm PySem.F.plainAttrs_list PySem.F.slot_list_extend PySem.F.type_list_extend mt_extend (pv 1) (pa_cons (pe_op op_rep (pe_lst (pa_cons pe_int pa_nil)) (pe_op op_sub (pe_gl rfl T.k_HEAD_SUM_AT) (pe_callB call_len (by rfl) (T.bu "len" (by decide)) (by decide +kernel) (pa_cons (pv 1) pa_nil)))) pa_nil)))
    (pss_one (ps_ret (pe_op op_cat (pe_op op_cat (pv 1) (pe_call (ok_number_bytes T) (hr.mono (by decide)) rfl T.number_bytes.g T.number_bytes.F.kp T.number_bytes.b .nil pass0 (pa_cons (pe_call (ok_sum_of T) (hr.mono (by decide)) rfl T.sum_of.g T.sum_of.F.kp T.sum_of.b .nil pass0 (pa_cons (pv 1) pa_nil)) (pa_cons pe_int pa_nil)))) (pe_call (ok_number_bytes T) (hr.mono (by decide)) rfl T.number_bytes.g T.number_bytes.F.kp T.number_bytes.b .nil pass0 (pa_cons (pe_fld (pv 0) rfl) (pa_cons pe_int pa_nil))))))))))))
theorem ok_Drive_make (T : Tx K mg a) : FnOk P w K mg base CX0 3 a.f_Drive_make a.d_Drive_make ["self", "block_count", "place_count"] (sp_Drive_make K a) := by
  refine T.Drive_make.F.ok sc_Drive_make (fun vs H Q E h => ln_Drive_make h) (fun cdv A outer s H vs Q E hr h => ⟨t_Drive_make K a, ?_, pure_Drive_make T h⟩)
  exact (pss_cons (ps_if (pt_not (pt_val (pe_call (ok_shape_is_allowed T) (hr.mono (by decide)) rfl T.shape_is_allowed.g T.shape_is_allowed.F.kp T.shape_is_allowed.b .nil pass0 (pa_cons (pv 1) (pa_cons (pv 2) pa_nil))))) (pss_one (ps_ret (pe_lst (pa_cons (pe_un un_neg pe_int) pa_nil)))) pss_nil)
    (pss_cons (ps_set (i := 3) sc_Drive_make.nd rfl (Or.inl rfl) (pe_make T.c_Shape.mkc (ok_Shape_init T) (hr.mono (by decide)) rfl T.c_Shape.g T.Shape_init.b .nil pass0 (pa_cons (pv 1) (pa_cons (pv 2) pa_nil))))
    (pss_cons (ps_set (i := 4) sc_Drive_make.nd rfl (Or.inl rfl) (pe_make T.c_Head.mkc (ok_Head_init T) (hr.mono (by decide)) rfl T.c_Head.g T.Head_init.b .nil pass0 (pa_cons pe_int (pa_cons (pv 3) (pa_cons pe_int (pa_cons pe_int pa_nil))))))
    (pss_cons (ps_set (i := 5) sc_Drive_make.nd rfl (Or.inl rfl) (pe_lst (pa_cons (pe_call (ok_head_block T) (hr.mono (by decide)) rfl T.head_block.g T.head_block.F.kp T.head_block.b .nil pass0 (pa_cons (pe_make T.c_Head.mkc (ok_Head_init T) (hr.mono (by decide)) rfl T.c_Head.g T.Head_init.b .nil pass0 (pa_cons pe_int (pa_cons (pv 3) (pa_cons pe_int (pa_cons pe_int pa_nil))))) pa_nil)) (pa_cons (pe_call (ok_head_block T) (hr.mono (by decide)) rfl T.head_block.g T.head_block.F.kp T.head_block.b .nil pass0 (pa_cons (pv 4) pa_nil)) pa_nil))))
    (pss_cons (ps_fld (pv 0) (pe_make T.c_Medium.mkc (ok_Medium_init T) (hr.mono (by decide)) rfl T.c_Medium.g T.Medium_init.b .nil pass0 (pa_cons (pe_op op_cat (pv 5) (pe_op op_rep (pe_lst (pa_cons (pe_op op_rep (pe_lst (pa_cons pe_int pa_nil)) (pe_gl rfl T.k_BLOCK_SIZE)) pa_nil)) (pe_op op_sub (pv 1) pe_int))) pa_nil)) rfl)
    (pss_cons (ps_fld (pv 0) (pe_make T.c_Known.mkc (ok_Known_init T) (hr.mono (by decide)) rfl T.c_Known.g T.Known_init.b .nil pass0 (pa_cons (pv 4) pa_nil)) rfl)
    (pss_one (ps_ret (pe_lst (pa_cons pe_int pa_nil))))))))))
theorem ok_Drive_read (T : Tx K mg a) : FnOk P w K mg base CX0 2 a.f_Drive_read a.d_Drive_read ["self", "home"] (sp_Drive_read K a) := by
  refine T.Drive_read.F.ok sc_Drive_read (fun vs H Q E h => ln_Drive_read h) (fun cdv A outer s H vs Q E hr h => ⟨t_Drive_read K a, ?_, pure_Drive_read T h⟩)
  exact (pss_cons (ps_if (pt_cmpR op_isN (pe_fld (pv 0) rfl) pe_non (nomark _)) (pss_one (ps_ret (pe_lst (pa_cons (pe_un un_neg pe_int) pa_nil)))) pss_nil)
    (pss_cons (ps_set (i := 2) sc_Drive_read.nd rfl (Or.inl rfl) (pe_fld (pe_fld (pe_fld (pv 0) rfl) rfl) rfl))
    (pss_cons (ps_if (PW.pt (pw_or (pt_cmpR op_lt (pv 1) pe_int (nomark _)) (pw_or1 (pt_cmpR op_ge (pv 1) (pe_fld (pv 2) rfl) (nomark _))))) (pss_one (ps_ret (pe_lst (pa_cons (pe_un un_neg pe_int) pa_nil)))) pss_nil)
    (pss_cons (ps_if (pt_cmp (pc_din (hu_of hr) (pv 1) (pe_fld (pe_fld (pv 0) rfl) rfl)) rfl) (pss_one (ps_ret (pe_op op_cat (pe_lst (pa_cons pe_int pa_nil)) (pe_dget (hu_of hr) (pe_fld (pe_fld (pv 0) rfl) rfl) (pv 1) (fun _ _ => rfl))))) pss_nil)
    (pss_one (ps_ret (pe_op op_cat (pe_lst (pa_cons pe_int pa_nil)) (pe_ix ix_list (pe_fld (pe_fld (pv 0) rfl) rfl) (pe_meth (pv 2) T.c_Shape.cl T.Shape_block_of_home.m (ok_Shape_block_of_home T) (hr.mono (by decide)) T.Shape_block_of_home.b .nil pass0 (pa_cons (pv 1) pa_nil)) (fun _ _ => rfl)))))))))
theorem ok_refused (T : Tx K mg a) : FnOk P w K mg base CX0 3 a.f_refused a.d_refused ["answer"] (sp_refused K a) := by
  refine T.refused.F.ok sc_refused (fun vs H Q E h => ln_refused h) (fun cdv A outer s H vs Q E hr h => ⟨t_refused K a, ?_, pure_refused T h⟩)
  exact (pss_one (ps_ret (pe_make T.c_Operation.mkc (ok_Operation_init T) (hr.mono (by decide)) rfl T.c_Operation.g T.Operation_init.b .nil pass0 (pa_cons (pv 0) (pa_cons (pe_lst pa_nil) (pa_cons pe_non pa_nil))))))
theorem ok_number_at (T : Tx K mg a) : FnOk P w K mg base CX0 1 a.f_number_at a.d_number_at ["block", "start", "size"] (sp_number_at K a) := by
  refine T.number_at.F.ok sc_number_at (fun vs H Q E h => ln_number_at h) (fun cdv A outer s H vs Q E hr h => ⟨t_number_at K a, ?_, pure_number_at T h⟩)
  exact (pss_cons (ps_set (i := 3) sc_number_at.nd rfl (Or.inl rfl) pe_int)
    (pss_cons (ps_for PassesOwn.never rfl (pi_reversed rfl (T.bu "reversed" (by decide)) (pa_cons (pe_slice sl_list (pv 0) (po_some (pv 1)) (po_some (pe_op op_add (pv 1) (pv 2)))) pa_nil)) (pg_name (i := 4) sc_number_at.nd rfl (Or.inl rfl)) (pss_one (ps_set (i := 3) sc_number_at.nd rfl (Or.inl rfl) (pe_op op_add (pe_op op_mul (pv 3) pe_int) (pv 4)))))
    (pss_one (ps_ret (pv 3)))))
theorem ok_head_in (T : Tx K mg a) : FnOk P w K mg base CX0 3 a.f_head_in a.d_head_in ["blocks", "b"] (sp_head_in K a) := by
  refine T.head_in.F.ok sc_head_in (fun vs H Q E h => ln_head_in h) (fun cdv A outer s H vs Q E hr h => ⟨t_head_in K a, ?_, pure_head_in T h⟩)
  exact (pss_cons (ps_set (i := 2) sc_head_in.nd rfl (Or.inl rfl) (pe_ix ix_list (pv 0) (pv 1) (fun _ _ => rfl)))
    (pss_cons (ps_set (i := 3) sc_head_in.nd rfl (Or.inl rfl) (pe_make T.c_Shape.mkc (ok_Shape_init T) (hr.mono (by decide)) rfl T.c_Shape.g T.Shape_init.b .nil pass0 (pa_cons (pe_call (ok_number_at T) (hr.mono (by decide)) rfl T.number_at.g T.number_at.F.kp T.number_at.b .nil pass0 (pa_cons (pv 2) (pa_cons pe_int (pa_cons pe_int pa_nil)))) (pa_cons (pe_call (ok_number_at T) (hr.mono (by decide)) rfl T.number_at.g T.number_at.F.kp T.number_at.b .nil pass0 (pa_cons (pv 2) (pa_cons pe_int (pa_cons pe_int pa_nil)))) pa_nil))))
    (pss_cons (ps_set (i := 4) sc_head_in.nd rfl (Or.inl rfl) (pe_make T.c_Head.mkc (ok_Head_init T) (hr.mono (by decide)) rfl T.c_Head.g T.Head_init.b .nil pass0 (pa_cons (pe_call (ok_number_at T) (hr.mono (by decide)) rfl T.number_at.g T.number_at.F.kp T.number_at.b .nil pass0 (pa_cons (pv 2) (pa_cons pe_int (pa_cons pe_int pa_nil)))) (pa_cons (pv 3) (pa_cons (pe_call (ok_number_at T) (hr.mono (by decide)) rfl T.number_at.g T.number_at.F.kp T.number_at.b .nil pass0 (pa_cons (pv 2) (pa_cons pe_int (pa_cons pe_int pa_nil)))) (pa_cons (pe_call (ok_number_at T) (hr.mono (by decide)) rfl T.number_at.g T.number_at.F.kp T.number_at.b .nil pass0 (pa_cons (pv 2) (pa_cons pe_int (pa_cons pe_int pa_nil)))) pa_nil))))))
    (pss_cons (ps_if (PW.pt (pw_or (pt_cmpR op_ne (pe_op op_modN (pe_fld (pv 4) rfl) pe_int) (pv 1) (nomark _)) (pw_or1 (pt_cmpR op_ge (pe_fld (pv 4) rfl) (pe_gl rfl T.k_NUMBER_LIMIT) (nomark _))))) (pss_one (ps_ret pe_non)) pss_nil)
    (pss_cons (ps_if (PW.pt (pw_or (pt_cmpR op_ne (pe_fld (pv 3) rfl) (pe_callB call_len (by rfl) (T.bu "len" (by decide)) (by decide +kernel) (pa_cons (pv 0) pa_nil)) (nomark _)) (pw_or1 (pt_not (pt_val (pe_call (ok_shape_is_allowed T) (hr.mono (by decide)) rfl T.shape_is_allowed.g T.shape_is_allowed.F.kp T.shape_is_allowed.b .nil pass0 (pa_cons (pe_fld (pv 3) rfl) (pa_cons (pe_fld (pv 3) rfl) pa_nil)))))))) (pss_one (ps_ret pe_non)) pss_nil)
    (pss_cons (ps_if (PW.pt (pw_or (pt_cmpR op_ge (pe_fld (pv 4) rfl) (pe_gl rfl T.k_NUMBER_LIMIT) (nomark _)) (pw_or1 (pt_cmpR op_ge (pe_fld (pv 4) rfl) (pe_fld (pv 3) rfl) (nomark _))))) (pss_one (ps_ret pe_non)) pss_nil)
    (pss_cons (ps_if (pt_cmpR (op_neD hr.units) (pe_call (ok_head_block T) (hr.mono (by decide)) rfl T.head_block.g T.head_block.F.kp T.head_block.b .nil pass0 (pa_cons (pv 4) pa_nil)) (pv 2) (nomark _)) (pss_one (ps_ret pe_non)) pss_nil)
    (pss_one (ps_ret (pv 4))))))))))
theorem ok_counting_head (T : Tx K mg a) : FnOk P w K mg base CX0 4 a.f_counting_head a.d_counting_head ["blocks"] (sp_counting_head K a) := by
  refine T.counting_head.F.ok sc_counting_head (fun vs H Q E h => ln_counting_head h) (fun cdv A outer s H vs Q E hr h => ⟨t_counting_head K a, ?_, pure_counting_head T h⟩)
  exact (pss_cons (ps_if (pt_cmpR op_eq (pe_callB call_len (by rfl) (T.bu "len" (by decide)) (by decide +kernel) (pa_cons (pv 0) pa_nil)) pe_int (nomark _)) (pss_one (ps_ret pe_non)) pss_nil)
    (pss_cons (ps_set (i := 1) sc_counting_head.nd rfl (Or.inl rfl) (pe_call (ok_head_in T) (hr.mono (by decide)) rfl T.head_in.g T.head_in.F.kp T.head_in.b .nil pass0 (pa_cons (pv 0) (pa_cons pe_int pa_nil))))
    (pss_cons (ps_set (i := 2) sc_counting_head.nd rfl (Or.inl rfl) (pe_call (ok_head_in T) (hr.mono (by decide)) rfl T.head_in.g T.head_in.F.kp T.head_in.b .nil pass0 (pa_cons (pv 0) (pa_cons pe_int pa_nil))))
    (pss_cons (ps_if (pt_cmpR op_isN (pv 1) pe_non (nomark _)) (pss_one (ps_ret (pv 2))) pss_nil)
    (pss_cons (ps_if (PW.pt (pw_or (pt_cmpR op_isN (pv 2) pe_non (nomark _)) (pw_or1 (pt_cmpR op_gt (pe_fld (pv 1) rfl) (pe_fld (pv 2) rfl) (nomark _))))) (pss_one (ps_ret (pv 1))) pss_nil)
    (pss_one (ps_ret (pv 2))))))))
theorem ok_homes_are_allowed (T : Tx K mg a) : FnOk P w K mg base CX0 1 a.f_homes_are_allowed a.d_homes_are_allowed ["homes", "home_count"] (sp_homes_are_allowed K a) := by
  refine T.homes_are_allowed.F.ok sc_homes_are_allowed (fun vs H Q E h => ln_homes_are_allowed h) (fun cdv A outer s H vs Q E hr h => ⟨t_homes_are_allowed K a, ?_, pure_homes_are_allowed T h⟩)
  exact (pss_cons (ps_if (PW.pt (pw_or (pt_cmpR op_lt (pe_callB call_len (by rfl) (T.bu "len" (by decide)) (by decide +kernel) (pa_cons (pv 0) pa_nil)) pe_int (nomark _)) (pw_or1 (pt_cmpR op_gt (pe_callB call_len (by rfl) (T.bu "len" (by decide)) (by decide +kernel) (pa_cons (pv 0) pa_nil)) (pe_gl rfl T.k_MOST_HOMES) (nomark _))))) (pss_one (ps_ret pe_bl)) pss_nil)
    (pss_one (ps_ret (pe_and (pe_cmpR op_eq (pe_lenSetAny rfl (T.bu "len" (by decide)) rfl (T.bu "set" (by decide)) (pv 0)) (pe_callB call_len (by rfl) (T.bu "len" (by decide)) (by decide +kernel) (pa_cons (pv 0) pa_nil)) (nomark _)) (pe_one (pe_cmpR op_lt (pe_callB (cr_max rfl) (by rfl) (T.bu "max" (by decide)) (by decide +kernel) (pa_cons (pv 0) pa_nil)) (pv 1) (nomark _)))))))
theorem ok_transaction_blocks (T : Tx K mg a) : FnOk P w K mg base CX0 2 a.f_transaction_blocks a.d_transaction_blocks ["number", "transaction"] (sp_transaction_blocks K a) := by
  refine T.transaction_blocks.F.ok sc_transaction_blocks (fun vs H Q E h => ln_transaction_blocks h) (fun cdv A outer s H vs Q E hr h => ⟨t_transaction_blocks K a, ?_, pure_transaction_blocks T h⟩)
  exact (pss_cons (ps_set (i := 2) sc_transaction_blocks.nd rfl (Or.inl rfl) (pe_op op_cat (pe_call (ok_letters T) (hr.mono (by decide)) rfl T.letters.g T.letters.F.kp T.letters.b .nil pass0 (pa_cons pe_str pa_nil)) (pe_call (ok_number_bytes T) (hr.mono (by decide)) rfl T.number_bytes.g T.number_bytes.F.kp T.number_bytes.b .nil pass0 (pa_cons (pv 0) (pa_cons pe_int pa_nil)))))
    (pss_cons (ps_expr (pe_bm PySem.F.plainAttrs_list PySem.F.slot_list_extend PySem.F.type_list_extend mt_extend (pv 2) (pa_cons (pe_op op_cat (pe_call (ok_number_bytes T) (hr.mono (by decide)) rfl T.number_bytes.g T.number_bytes.F.kp T.number_bytes.b .nil pass0 (pa_cons (pe_callB call_len (by rfl) (T.bu "len" (by decide)) (by decide +kernel) (pa_cons (pe_fld (pv 1) rfl) pa_nil)) (pa_cons pe_int pa_nil))) (pe_op op_rep (pe_lst (pa_cons pe_int pa_nil)) pe_int)) pa_nil)))
    (pss_cons (ps_set (i := 3) sc_transaction_blocks.nd rfl (Or.inl rfl) (pe_lst pa_nil))
    (pss_cons (ps_for PassesOwn.never rfl (pi_zip rfl (T.bu "zip" (by decide)) (pa_cons (pe_fld (pv 1) rfl) (pa_cons (pe_fld (pv 1) rfl) pa_nil))) (pg_tup rfl (pgs_cons (pg_name (i := 4) sc_transaction_blocks.nd rfl (Or.inl rfl)) (pgs_cons (pg_name (i := 5) sc_transaction_blocks.nd rfl (Or.inl rfl)) pgs_nil))) (pss_cons (ps_expr (pe_bm PySem.F.plainAttrs_list PySem.F.slot_list_extend PySem.F.type_list_extend mt_extend (pv 2) (pa_cons (pe_op op_cat (pe_op op_cat (pe_call (ok_number_bytes T) (hr.mono (by decide)) rfl T.number_bytes.g T.number_bytes.F.kp T.number_bytes.b .nil pass0 (pa_cons (pv 4) (pa_cons pe_int pa_nil))) (pe_call (ok_number_bytes T) (hr.mono (by decide)) rfl T.number_bytes.g T.number_bytes.F.kp T.number_bytes.b .nil pass0 (pa_cons (pe_call (ok_sum_of T) (hr.mono (by decide)) rfl T.sum_of.g T.sum_of.F.kp T.sum_of.b .nil pass0 (pa_cons (pv 5) pa_nil)) (pa_cons pe_int pa_nil)))) (pe_slice sl_list (pv 5) (po_some (pe_gl rfl T.k_TAIL_AT)) po_none)) pa_nil)))
    (pss_one (ps_expr (pe_bm PySem.F.plainAttrs_list PySem.F.slot_list_append PySem.F.type_list_append mt_append (pv 3) (pa_cons (pe_op op_cat (pe_slice sl_list (pv 5) po_none (po_some (pe_gl rfl T.k_TAIL_AT))) (pe_call (ok_number_bytes T) (hr.mono (by decide)) rfl T.number_bytes.g T.number_bytes.F.kp T.number_bytes.b .nil pass0 (pa_cons (pv 0) (pa_cons pe_int pa_nil)))) pa_nil))))))
    (pss_cons (ps_expr (pe_bm PySem.F.plainAttrs_list PySem.F.slot_list_extend PySem.F.type_list_extend mt_extend (pv 2) (pa_cons (pe_op op_cat (pe_op op_rep (pe_lst (pa_cons pe_int pa_nil)) (pe_op op_sub (pe_gl rfl T.k_TAIL_AT) (pe_callB call_len (by rfl) (T.bu "len" (by decide)) (by decide +kernel) (pa_cons (pv 2) pa_nil)))) (pe_call (ok_number_bytes T) (hr.mono (by decide)) rfl T.number_bytes.g T.number_bytes.F.kp T.number_bytes.b .nil pass0 (pa_cons (pv 0) (pa_cons pe_int pa_nil)))) pa_nil)))
    (pss_one (ps_ret (pe_op op_cat (pe_lst (pa_cons (pv 2) pa_nil)) (pv 3)))))))))
theorem ok_transaction_at (T : Tx K mg a) : FnOk P w K mg base CX0 3 a.f_transaction_at a.d_transaction_at ["journal", "place", "number", "home_count"] (sp_transaction_at K a) := by
  refine T.transaction_at.F.ok sc_transaction_at (fun vs H Q E h => ln_transaction_at h) (fun cdv A outer s H vs Q E hr h => ⟨t_transaction_at K a, ?_, pure_transaction_at T h⟩)
  exact (pss_cons (ps_set (i := 4) sc_transaction_at.nd rfl (Or.inl rfl) (pe_ix ix_list (pv 0) (pv 1) (fun _ _ => rfl)))
    (pss_cons (ps_set (i := 5) sc_transaction_at.nd rfl (Or.inl rfl) (pe_call (ok_number_at T) (hr.mono (by decide)) rfl T.number_at.g T.number_at.F.kp T.number_at.b .nil pass0 (pa_cons (pv 4) (pa_cons pe_int (pa_cons pe_int pa_nil)))))
    (pss_cons (ps_if (PW.pt (pw_or (pt_cmpR op_ne (pe_call (ok_number_at T) (hr.mono (by decide)) rfl T.number_at.g T.number_at.F.kp T.number_at.b .nil pass0 (pa_cons (pv 4) (pa_cons pe_int (pa_cons pe_int pa_nil)))) (pv 2) (nomark _)) (pw_or1 (pt_cmpR op_gt (pe_op op_add (pv 5) pe_int) (pe_callB call_len (by rfl) (T.bu "len" (by decide)) (by decide +kernel) (pa_cons (pv 0) pa_nil)) (nomark _))))) (pss_one (ps_ret pe_non)) pss_nil)
    (pss_cons (ps_set (i := 6) sc_transaction_at.nd rfl (Or.inl rfl) (pe_lst (pa_cons (pv 4) pa_nil)))
    (pss_cons (ps_set (i := 7) sc_transaction_at.nd rfl (Or.inl rfl) (pe_lst pa_nil))
    (pss_cons (ps_set (i := 8) sc_transaction_at.nd rfl (Or.inl rfl) (pe_lst pa_nil))
    (pss_cons (ps_for PassesOwn.never rfl (pi_range1 rfl (T.bu "range" (by decide)) (pa_cons (pv 5) pa_nil)) (pg_name (i := 9) sc_transaction_at.nd rfl (Or.inl rfl)) (pss_cons (ps_set (i := 10) sc_transaction_at.nd rfl (Or.inl rfl) (pe_op op_add (pe_gl rfl T.k_ENTRIES_AT) (pe_op op_mul (pe_gl rfl T.k_ENTRY_SIZE) (pv 9))))
    (pss_cons (ps_set (i := 11) sc_transaction_at.nd rfl (Or.inl rfl) (pe_ix ix_list (pv 0) (pe_op op_modN (pe_op op_add (pe_op op_add (pv 1) pe_int) (pv 9)) (pe_callB call_len (by rfl) (T.bu "len" (by decide)) (by decide +kernel) (pa_cons (pv 0) pa_nil))) (fun _ _ => rfl)))
    (pss_cons (ps_expr (pe_bm PySem.F.plainAttrs_list PySem.F.slot_list_append PySem.F.type_list_append mt_append (pv 6) (pa_cons (pv 11) pa_nil)))
    (pss_cons (ps_expr (pe_bm PySem.F.plainAttrs_list PySem.F.slot_list_append PySem.F.type_list_append mt_append (pv 7) (pa_cons (pe_call (ok_number_at T) (hr.mono (by decide)) rfl T.number_at.g T.number_at.F.kp T.number_at.b .nil pass0 (pa_cons (pv 4) (pa_cons (pv 10) (pa_cons pe_int pa_nil)))) pa_nil)))
    (pss_one (ps_expr (pe_bm PySem.F.plainAttrs_list PySem.F.slot_list_append PySem.F.type_list_append mt_append (pv 8) (pa_cons (pe_op op_cat (pe_slice sl_list (pv 11) po_none (po_some (pe_gl rfl T.k_TAIL_AT))) (pe_slice sl_list (pv 4) (po_some (pe_op op_add (pv 10) pe_int)) (po_some (pe_op op_add (pv 10) (pe_gl rfl T.k_ENTRY_SIZE))))) pa_nil)))))))))
    (pss_cons (ps_set (i := 12) sc_transaction_at.nd rfl (Or.inl rfl) (pe_make T.c_Transaction.mkc (ok_Transaction_init T) (hr.mono (by decide)) rfl T.c_Transaction.g T.Transaction_init.b .nil pass0 (pa_cons (pv 7) (pa_cons (pv 8) pa_nil))))
    (pss_cons (ps_if (PW.pt (pw_and (pt_val (pe_call (ok_homes_are_allowed T) (hr.mono (by decide)) rfl T.homes_are_allowed.g T.homes_are_allowed.F.kp T.homes_are_allowed.b .nil pass0 (pa_cons (pv 7) (pa_cons (pv 3) pa_nil)))) (pw_and1 (pt_cmpR (op_eqD hr.units) (pe_call (ok_transaction_blocks T) (hr.mono (by decide)) rfl T.transaction_blocks.g T.transaction_blocks.F.kp T.transaction_blocks.b .nil pass0 (pa_cons (pv 2) (pa_cons (pv 12) pa_nil))) (pv 6) (nomark _))))) (pss_one (ps_ret (pv 12))) pss_nil)
    (pss_one (ps_ret pe_non)))))))))))
theorem ok_found_on (T : Tx K mg a) : FnOk P w K mg base CX0 5 a.f_found_on a.d_found_on ["blocks"] (sp_found_on K a) := by
  refine T.found_on.F.ok sc_found_on (fun vs H Q E h => ln_found_on h) (fun cdv A outer s H vs Q E hr h => ⟨t_found_on K a, ?_, pure_found_on T h⟩)
  exact (pss_cons (ps_set (i := 1) sc_found_on.nd rfl (Or.inl rfl) (pe_call (ok_counting_head T) (hr.mono (by decide)) rfl T.counting_head.g T.counting_head.F.kp T.counting_head.b .nil pass0 (pa_cons (pv 0) pa_nil)))
    (pss_cons (ps_if (pt_cmpR op_isN (pv 1) pe_non (nomark _)) (pss_one (ps_ret pe_non)) pss_nil)
    (pss_cons (ps_set (i := 2) sc_found_on.nd rfl (Or.inl rfl) (pe_fld (pv 1) rfl))
    (pss_cons (ps_set (i := 3) sc_found_on.nd rfl (Or.inl rfl) (pe_slice sl_list (pv 0) (po_some pe_int) (po_some (pe_op op_add (pe_fld (pv 2) rfl) pe_int))))
    (pss_cons (ps_set (i := 4) sc_found_on.nd rfl (Or.inl rfl) (pe_lst pa_nil))
    (pss_cons (ps_set (i := 5) sc_found_on.nd rfl (Or.inl rfl) (pe_fld (pv 1) rfl))
    (pss_cons (ps_while PassesOwn.never (pt_cmpR op_lt (pe_callB call_len (by rfl) (T.bu "len" (by decide)) (by decide +kernel) (pa_cons (pv 4) pa_nil)) (pe_fld (pv 2) rfl) (nomark _)) (pss_cons (ps_set (i := 6) sc_found_on.nd rfl (Or.inl rfl) (pe_op op_add (pe_fld (pv 1) rfl) (pe_callB call_len (by rfl) (T.bu "len" (by decide)) (by decide +kernel) (pa_cons (pv 4) pa_nil))))
    (pss_cons (ps_set (i := 7) sc_found_on.nd rfl (Or.inl rfl) (pe_call (ok_transaction_at T) (hr.mono (by decide)) rfl T.transaction_at.g T.transaction_at.F.kp T.transaction_at.b .nil pass0 (pa_cons (pv 3) (pa_cons (pv 5) (pa_cons (pv 6) (pa_cons (pe_fld (pv 2) rfl) pa_nil))))))
    (pss_cons (ps_if (pt_cmpR op_isN (pv 7) pe_non (nomark _)) (pss_one ps_break) pss_nil)
    (pss_cons (ps_expr (pe_bm PySem.F.plainAttrs_list PySem.F.slot_list_append PySem.F.type_list_append mt_append (pv 4) (pa_cons (pv 7) pa_nil)))
    (pss_one (ps_set (i := 5) sc_found_on.nd rfl (Or.inl rfl) (pe_op op_modN (pe_op op_add (pe_op op_add (pv 5) pe_int) (pe_callB call_len (by rfl) (T.bu "len" (by decide)) (by decide +kernel) (pa_cons (pe_fld (pv 7) rfl) pa_nil))) (pe_fld (pv 2) rfl)))))))))
    (pss_one (ps_ret (pe_make T.c_Found.mkc (ok_Found_init T) (hr.mono (by decide)) rfl T.c_Found.g T.Found_init.b .nil pass0 (pa_cons (pv 1) (pa_cons (pv 4) (pa_cons (pv 5) pa_nil)))))))))))))
theorem ok_home_writes (T : Tx K mg a) : FnOk P w K mg base CX0 2 a.f_home_writes a.d_home_writes ["shape", "newest"] (sp_home_writes K a) := by
  refine T.home_writes.F.ok sc_home_writes (fun vs H Q E h => ln_home_writes h) (fun cdv A outer s H vs Q E hr h => ⟨t_home_writes K a, ?_, pure_home_writes T h⟩)
  exact (pss_one (ps_ret (pe_lc (own := [("home", 2)]) rfl sc_home_writes.nd (pi_list (pe_callB (call_sortedDict rfl) (by rfl) (T.bu "sorted" (by decide)) (by decide +kernel) (pa_cons (pv 1) pa_nil))) (blkOk_by (own := [("home", 2)]) (N := N_home_writes) (sc := defScope s_home_writes) (by decide +kernel)) (fun _ _ _ _ _ => pg_name (i := 2) sc_home_writes.nd rfl (Or.inl rfl)) (fun _ _ _ _ _ => pts_nil) (fun _ _ _ _ _ => (pe_tup (pa_cons (pe_meth (pv 0) T.c_Shape.cl T.Shape_block_of_home.m (ok_Shape_block_of_home T) (hr.mono (by decide)) T.Shape_block_of_home.b .nil pass0 (pa_cons (pv 2) pa_nil)) (pa_cons (pe_dget (hu_of hr) (pv 1) (pv 2) (fun _ _ => rfl)) pa_nil)))))))
theorem ok_head_write (T : Tx K mg a) : FnOk P w K mg base CX0 3 a.f_head_write a.d_head_write ["head"] (sp_head_write K a) := by
  refine T.head_write.F.ok sc_head_write (fun vs H Q E h => ln_head_write h) (fun cdv A outer s H vs Q E hr h => ⟨t_head_write K a, ?_, pure_head_write T h⟩)
  exact (pss_one (ps_ret (pe_tup (pa_cons (pe_op op_modN (pe_fld (pv 0) rfl) pe_int) (pa_cons (pe_call (ok_head_block T) (hr.mono (by decide)) rfl T.head_block.g T.head_block.F.kp T.head_block.b .nil pass0 (pa_cons (pv 0) pa_nil)) pa_nil)))))
theorem ok_mend_operation (T : Tx K mg a) : FnOk P w K mg base CX0 6 a.f_mend_operation a.d_mend_operation ["blocks"] (sp_mend_operation K a) := by
  refine T.mend_operation.F.ok sc_mend_operation (fun vs H Q E h => ln_mend_operation h) (fun cdv A outer s H vs Q E hr h => ⟨t_mend_operation K a, ?_, pure_mend_operation T h⟩)
  exact (pss_cons (ps_set (i := 1) sc_mend_operation.nd rfl (Or.inl rfl) (pe_call (ok_found_on T) (hr.mono (by decide)) rfl T.found_on.g T.found_on.F.kp T.found_on.b .nil pass0 (pa_cons (pv 0) pa_nil)))
    (pss_cons (ps_if (pt_cmpR op_isN (pv 1) pe_non (nomark _)) (pss_one (ps_ret (pe_call (ok_refused T) (hr.mono (by decide)) rfl T.refused.g T.refused.F.kp T.refused.b .nil pass0 (pa_cons (pe_un un_neg pe_int) pa_nil)))) pss_nil)
    (pss_cons (ps_set (i := 2) sc_mend_operation.nd rfl (Or.inl rfl) (pe_fld (pe_fld (pv 1) rfl) rfl))
    (pss_cons (ps_set (i := 3) sc_mend_operation.nd rfl (Or.inl rfl) pe_dnewK)
    (pss_cons (ps_for PassesOwn.never rfl (pi_list (pe_fld (pv 1) rfl)) (pg_name (i := 4) sc_mend_operation.nd rfl (Or.inl rfl)) (pss_one (ps_for PassesOwn.never rfl (pi_zip rfl (T.bu "zip" (by decide)) (pa_cons (pe_fld (pv 4) rfl) (pa_cons (pe_fld (pv 4) rfl) pa_nil))) (pg_tup rfl (pgs_cons (pg_name (i := 5) sc_mend_operation.nd rfl (Or.inl rfl)) (pgs_cons (pg_name (i := 6) sc_mend_operation.nd rfl (Or.inl rfl)) pgs_nil))) (pss_one (ps_dput (hu_of hr) (pv 3) (pv 5) (pv 6) rfl)))))
    (pss_cons (ps_set (i := 7) sc_mend_operation.nd rfl (Or.inl rfl) (pe_op op_add (pe_op op_add (pe_fld (pe_fld (pv 1) rfl) rfl) (pe_callB call_len (by rfl) (T.bu "len" (by decide)) (by decide +kernel) (pa_cons (pe_fld (pv 1) rfl) pa_nil))) (pe_fld (pv 2) rfl)))
    (pss_cons (ps_set (i := 8) sc_mend_operation.nd rfl (Or.inl rfl) (pe_make T.c_Head.mkc (ok_Head_init T) (hr.mono (by decide)) rfl T.c_Head.g T.Head_init.b .nil pass0 (pa_cons (pe_op op_add (pe_fld (pe_fld (pv 1) rfl) rfl) pe_int) (pa_cons (pv 2) (pa_cons (pv 7) (pa_cons (pe_fld (pv 1) rfl) pa_nil))))))
    (pss_cons (ps_set (i := 9) sc_mend_operation.nd rfl (Or.inl rfl) (pe_op op_cat (pe_call (ok_home_writes T) (hr.mono (by decide)) rfl T.home_writes.g T.home_writes.F.kp T.home_writes.b .nil pass0 (pa_cons (pv 2) (pa_cons (pv 3) pa_nil))) (pe_lst (pa_cons pe_non (pa_cons (pe_call (ok_head_write T) (hr.mono (by decide)) rfl T.head_write.g T.head_write.F.kp T.head_write.b .nil pass0 (pa_cons (pv 8) pa_nil)) (pa_cons pe_non pa_nil))))))
    (pss_one (ps_ret (pe_make T.c_Operation.mkc (ok_Operation_init T) (hr.mono (by decide)) rfl T.c_Operation.g T.Operation_init.b .nil pass0 (pa_cons (pe_callB call_len (by rfl) (T.bu "len" (by decide)) (by decide +kernel) (pa_cons (pe_fld (pv 1) rfl) pa_nil)) (pa_cons (pv 9) (pa_cons (pe_make T.c_Known.mkc (ok_Known_init T) (hr.mono (by decide)) rfl T.c_Known.g T.Known_init.b .nil pass0 (pa_cons (pv 8) pa_nil)) pa_nil))))))))))))))
theorem ok_split_blocks (T : Tx K mg a) : FnOk P w K mg base CX0 1 a.f_split_blocks a.d_split_blocks ["data"] (sp_split_blocks K a) := by
  refine T.split_blocks.F.ok sc_split_blocks (fun vs H Q E h => ln_split_blocks h) (fun cdv A outer s H vs Q E hr h => ⟨t_split_blocks K a, ?_, pure_split_blocks T h⟩)
  exact (pss_one (ps_ret (pe_lc (own := [("at", 1)]) rfl sc_split_blocks.nd (pi_range3 rfl (T.bu "range" (by decide)) (pa_cons pe_int (pa_cons (pe_callB call_len (by rfl) (T.bu "len" (by decide)) (by decide +kernel) (pa_cons (pv 0) pa_nil)) (pa_cons (pe_gl rfl T.k_BLOCK_SIZE) pa_nil)))) (blkOk_by (own := [("at", 1)]) (N := N_split_blocks) (sc := defScope s_split_blocks) (by decide +kernel)) (fun _ _ _ _ _ => pg_name (i := 1) sc_split_blocks.nd rfl (Or.inl rfl)) (fun _ _ _ _ _ => pts_nil) (fun _ _ _ _ _ => (pe_slice sl_list (pv 0) (po_some (pv 1)) (po_some (pe_op op_add (pv 1) (pe_gl rfl T.k_BLOCK_SIZE))))))))
theorem ok_settle_operation (T : Tx K mg a) : FnOk P w K mg base CX0 4 a.f_settle_operation a.d_settle_operation ["known"] (sp_settle_operation K a) := by
  refine T.settle_operation.F.ok sc_settle_operation (fun vs H Q E h => ln_settle_operation h) (fun cdv A outer s H vs Q E hr h => ⟨t_settle_operation K a, ?_, pure_settle_operation T h⟩)
  exact (pss_cons (ps_if (pt_cmpR op_eq (pe_fld (pv 0) rfl) pe_int (nomark _)) (pss_one (ps_ret (pe_make T.c_Operation.mkc (ok_Operation_init T) (hr.mono (by decide)) rfl T.c_Operation.g T.Operation_init.b .nil pass0 (pa_cons pe_int (pa_cons (pe_lst pa_nil) (pa_cons (pv 0) pa_nil)))))) pss_nil)
    (pss_cons (ps_set (i := 1) sc_settle_operation.nd rfl (Or.inl rfl) (pe_fld (pe_fld (pv 0) rfl) rfl))
    (pss_cons (ps_set (i := 2) sc_settle_operation.nd rfl (Or.inl rfl) (pe_make T.c_Head.mkc (ok_Head_init T) (hr.mono (by decide)) rfl T.c_Head.g T.Head_init.b .nil pass0 (pa_cons (pe_op op_add (pe_fld (pe_fld (pv 0) rfl) rfl) pe_int) (pa_cons (pv 1) (pa_cons (pe_fld (pv 0) rfl) (pa_cons (pe_fld (pv 0) rfl) pa_nil))))))
    (pss_cons (ps_set (i := 3) sc_settle_operation.nd rfl (Or.inl rfl) (pe_op op_cat (pe_op op_cat (pe_lst (pa_cons pe_non pa_nil)) (pe_call (ok_home_writes T) (hr.mono (by decide)) rfl T.home_writes.g T.home_writes.F.kp T.home_writes.b .nil pass0 (pa_cons (pv 1) (pa_cons (pe_fld (pv 0) rfl) pa_nil)))) (pe_lst (pa_cons pe_non (pa_cons (pe_call (ok_head_write T) (hr.mono (by decide)) rfl T.head_write.g T.head_write.F.kp T.head_write.b .nil pass0 (pa_cons (pv 2) pa_nil)) (pa_cons pe_non pa_nil))))))
    (pss_one (ps_ret (pe_make T.c_Operation.mkc (ok_Operation_init T) (hr.mono (by decide)) rfl T.c_Operation.g T.Operation_init.b .nil pass0 (pa_cons pe_int (pa_cons (pv 3) (pa_cons (pe_make T.c_Known.mkc (ok_Known_init T) (hr.mono (by decide)) rfl T.c_Known.g T.Known_init.b .nil pass0 (pa_cons (pv 2) pa_nil)) pa_nil))))))))))
theorem ok_known_behind (T : Tx K mg a) : FnOk P w K mg base CX0 3 a.f_known_behind a.d_known_behind ["known", "transaction"] (sp_known_behind K a) := by
  refine T.known_behind.F.ok sc_known_behind (fun vs H Q E h => ln_known_behind h) (fun cdv A outer s H vs Q E hr h => ⟨t_known_behind K a, ?_, pure_known_behind T h⟩)
  exact (pss_cons (ps_set (i := 2) sc_known_behind.nd rfl (Or.inl rfl) (pe_op op_add (pe_callB call_len (by rfl) (T.bu "len" (by decide)) (by decide +kernel) (pa_cons (pe_fld (pv 1) rfl) pa_nil)) pe_int))
    (pss_cons (ps_set (i := 3) sc_known_behind.nd rfl (Or.inl rfl) (pe_make T.c_Known.mkc (ok_Known_init T) (hr.mono (by decide)) rfl T.c_Known.g T.Known_init.b .nil pass0 (pa_cons (pe_fld (pv 0) rfl) pa_nil)))
    (pss_cons (ps_fld (pv 3) (pe_op op_add (pe_fld (pv 0) rfl) pe_int) rfl)
    (pss_cons (ps_fld (pv 3) (pe_op op_modN (pe_op op_add (pe_fld (pv 0) rfl) (pv 2)) (pe_fld (pe_fld (pe_fld (pv 0) rfl) rfl) rfl)) rfl)
    (pss_cons (ps_fld (pv 3) (pe_op op_add (pe_fld (pv 0) rfl) (pv 2)) rfl)
    (pss_cons (ps_fld (pv 3) (pe_callTy call_dictD (by rfl) (T.bu "dict" (by decide)) (by decide +kernel) (pa_cons (pe_fld (pv 0) rfl) pa_nil)) rfl)
    (pss_cons (ps_for PassesOwn.never rfl (pi_zip rfl (T.bu "zip" (by decide)) (pa_cons (pe_fld (pv 1) rfl) (pa_cons (pe_fld (pv 1) rfl) pa_nil))) (pg_tup rfl (pgs_cons (pg_name (i := 4) sc_known_behind.nd rfl (Or.inl rfl)) (pgs_cons (pg_name (i := 5) sc_known_behind.nd rfl (Or.inl rfl)) pgs_nil))) (pss_one (ps_dput (hu_of hr) (pe_fld (pv 3) rfl) (pv 4) (pv 5) rfl)))
    (pss_one (ps_ret (pv 3))))))))))
theorem ok_commit_operation (T : Tx K mg a) : FnOk P w K mg base CX0 5 a.f_commit_operation a.d_commit_operation ["known", "homes", "data"] (sp_commit_operation K a) := by
  refine T.commit_operation.F.ok sc_commit_operation (fun vs H Q E h => ln_commit_operation h) (fun cdv A outer s H vs Q E hr h => ⟨t_commit_operation K a, ?_, pure_commit_operation T h⟩)
  exact (pss_cons (ps_set (i := 3) sc_commit_operation.nd rfl (Or.inl rfl) (pe_fld (pe_fld (pv 0) rfl) rfl))
    (pss_cons (ps_if (PW.pt (pw_or (pt_not (pt_val (pe_call (ok_homes_are_allowed T) (hr.mono (by decide)) rfl T.homes_are_allowed.g T.homes_are_allowed.F.kp T.homes_are_allowed.b .nil pass0 (pa_cons (pv 1) (pa_cons (pe_fld (pv 3) rfl) pa_nil))))) (pw_or1 (pt_cmpR op_ne (pe_callB call_len (by rfl) (T.bu "len" (by decide)) (by decide +kernel) (pa_cons (pv 2) pa_nil)) (pe_op op_mul (pe_gl rfl T.k_BLOCK_SIZE) (pe_callB call_len (by rfl) (T.bu "len" (by decide)) (by decide +kernel) (pa_cons (pv 1) pa_nil))) (nomark _))))) (pss_one (ps_ret (pe_call (ok_refused T) (hr.mono (by decide)) rfl T.refused.g T.refused.F.kp T.refused.b .nil pass0 (pa_cons (pe_un un_neg pe_int) pa_nil)))) pss_nil)
    (pss_cons (ps_if (pt_cmpR op_gt (pe_op op_add (pe_callB call_len (by rfl) (T.bu "len" (by decide)) (by decide +kernel) (pa_cons (pv 1) pa_nil)) pe_int) (pe_fld (pv 3) rfl) (nomark _)) (pss_one (ps_ret (pe_call (ok_refused T) (hr.mono (by decide)) rfl T.refused.g T.refused.F.kp T.refused.b .nil pass0 (pa_cons (pe_un un_neg pe_int) pa_nil)))) pss_nil)
    (pss_cons (ps_set (i := 4) sc_commit_operation.nd rfl (Or.inl rfl) (pe_make T.c_Transaction.mkc (ok_Transaction_init T) (hr.mono (by decide)) rfl T.c_Transaction.g T.Transaction_init.b .nil pass0 (pa_cons (pv 1) (pa_cons (pe_call (ok_split_blocks T) (hr.mono (by decide)) rfl T.split_blocks.g T.split_blocks.F.kp T.split_blocks.b .nil pass0 (pa_cons (pv 2) pa_nil)) pa_nil))))
    (pss_cons (ps_set (i := 5) sc_commit_operation.nd rfl (Or.inl rfl) (pe_lst pa_nil))
    (pss_cons (ps_set (i := 6) sc_commit_operation.nd rfl (Or.inl rfl) (pv 0))
    (pss_cons (ps_if (pt_cmpR op_gt (pe_op op_add (pe_op op_add (pe_fld (pv 0) rfl) (pe_callB call_len (by rfl) (T.bu "len" (by decide)) (by decide +kernel) (pa_cons (pv 1) pa_nil))) pe_int) (pe_fld (pv 3) rfl) (nomark _)) (pss_cons (ps_set (i := 7) sc_commit_operation.nd rfl (Or.inl rfl) (pe_call (ok_settle_operation T) (hr.mono (by decide)) rfl T.settle_operation.g T.settle_operation.F.kp T.settle_operation.b .nil pass0 (pa_cons (pv 0) pa_nil)))
    (pss_cons (ps_expr (pe_bm PySem.F.plainAttrs_list PySem.F.slot_list_extend PySem.F.type_list_extend mt_extend (pv 5) (pa_cons (pe_fld (pv 7) rfl) pa_nil)))
    (pss_one (ps_set (i := 6) sc_commit_operation.nd rfl (Or.inl rfl) (pe_fld (pv 7) rfl))))) pss_nil)
    (pss_cons (ps_for PassesOwn.never rfl (pi_enum rfl (T.bu "enumerate" (by decide)) (pa_cons (pe_call (ok_transaction_blocks T) (hr.mono (by decide)) rfl T.transaction_blocks.g T.transaction_blocks.F.kp T.transaction_blocks.b .nil pass0 (pa_cons (pe_fld (pv 6) rfl) (pa_cons (pv 4) pa_nil))) pa_nil)) (pg_tup rfl (pgs_cons (pg_name (i := 8) sc_commit_operation.nd rfl (Or.inl rfl)) (pgs_cons (pg_name (i := 9) sc_commit_operation.nd rfl (Or.inl rfl)) pgs_nil))) (pss_one (ps_expr (pe_bm PySem.F.plainAttrs_list PySem.F.slot_list_append PySem.F.type_list_append mt_append (pv 5) (pa_cons (pe_tup (pa_cons (pe_meth (pv 3) T.c_Shape.cl T.Shape_block_of_place.m (ok_Shape_block_of_place T) (hr.mono (by decide)) T.Shape_block_of_place.b .nil pass0 (pa_cons (pe_op op_add (pe_fld (pv 6) rfl) (pv 8)) pa_nil)) (pa_cons (pv 9) pa_nil))) pa_nil)))))
    (pss_one (ps_ret (pe_make T.c_Operation.mkc (ok_Operation_init T) (hr.mono (by decide)) rfl T.c_Operation.g T.Operation_init.b .nil pass0 (pa_cons (pe_fld (pv 6) rfl) (pa_cons (pv 5) (pa_cons (pe_call (ok_known_behind T) (hr.mono (by decide)) rfl T.known_behind.g T.known_behind.F.kp T.known_behind.b .nil pass0 (pa_cons (pv 6) (pa_cons (pv 4) pa_nil))) pa_nil))))))))))))))
theorem ok_flush_operation (T : Tx K mg a) : FnOk P w K mg base CX0 3 a.f_flush_operation a.d_flush_operation ["known"] (sp_flush_operation K a) := by
  refine T.flush_operation.F.ok sc_flush_operation (fun vs H Q E h => ln_flush_operation h) (fun cdv A outer s H vs Q E hr h => ⟨t_flush_operation K a, ?_, pure_flush_operation T h⟩)
  exact (pss_one (ps_ret (pe_make T.c_Operation.mkc (ok_Operation_init T) (hr.mono (by decide)) rfl T.c_Operation.g T.Operation_init.b .nil pass0 (pa_cons pe_int (pa_cons (pe_lst (pa_cons pe_non pa_nil)) (pa_cons (pv 0) pa_nil))))))
theorem ok_Drive_operation (T : Tx K mg a) : FnOk P w K mg base CX0 7 a.f_Drive_operation a.d_Drive_operation ["self", "kind", "homes", "data"] (sp_Drive_operation K a) := by
  refine T.Drive_operation.F.ok sc_Drive_operation (fun vs H Q E h => ln_Drive_operation h) (fun cdv A outer s H vs Q E hr h => ⟨t_Drive_operation K a, ?_, pure_Drive_operation T h⟩)
  exact (pss_cons (ps_if (pt_cmpR op_eq (pv 1) (pe_gl rfl T.k_MEND) (nomark _)) (pss_cons (ps_if (pt_cmpR op_notN (pe_fld (pv 0) rfl) pe_non (nomark _)) (pss_one (ps_ret (pe_call (ok_refused T) (hr.mono (by decide)) rfl T.refused.g T.refused.F.kp T.refused.b .nil pass0 (pa_cons (pe_un un_neg pe_int) pa_nil)))) pss_nil)
    (pss_one (ps_ret (pe_call (ok_mend_operation T) (hr.mono (by decide)) rfl T.mend_operation.g T.mend_operation.F.kp T.mend_operation.b .nil pass0 (pa_cons (pe_fld (pe_fld (pv 0) rfl) rfl) pa_nil))))) pss_nil)
    (pss_cons (ps_if (pt_cmpR op_isN (pe_fld (pv 0) rfl) pe_non (nomark _)) (pss_one (ps_ret (pe_call (ok_refused T) (hr.mono (by decide)) rfl T.refused.g T.refused.F.kp T.refused.b .nil pass0 (pa_cons (pe_un un_neg pe_int) pa_nil)))) pss_nil)
    (pss_cons (ps_if (pt_cmpR op_eq (pv 1) (pe_gl rfl T.k_COMMIT) (nomark _)) (pss_one (ps_ret (pe_call (ok_commit_operation T) (hr.mono (by decide)) rfl T.commit_operation.g T.commit_operation.F.kp T.commit_operation.b .nil pass0 (pa_cons (pe_fld (pv 0) rfl) (pa_cons (pv 2) (pa_cons (pv 3) pa_nil)))))) pss_nil)
    (pss_cons (ps_if (pt_cmpR op_eq (pv 1) (pe_gl rfl T.k_FLUSH) (nomark _)) (pss_one (ps_ret (pe_call (ok_flush_operation T) (hr.mono (by decide)) rfl T.flush_operation.g T.flush_operation.F.kp T.flush_operation.b .nil pass0 (pa_cons (pe_fld (pv 0) rfl) pa_nil)))) pss_nil)
    (pss_one (ps_ret (pe_call (ok_settle_operation T) (hr.mono (by decide)) rfl T.settle_operation.g T.settle_operation.F.kp T.settle_operation.b .nil pass0 (pa_cons (pe_fld (pv 0) rfl) pa_nil))))))))
theorem ok_Drive_operate (T : Tx K mg a) : FnOk P w K mg base CX0 8 a.f_Drive_operate a.d_Drive_operate ["self", "kind", "homes", "data"] (sp_Drive_operate K a) := by
  refine T.Drive_operate.F.ok sc_Drive_operate (fun vs H Q E h => ln_Drive_operate h) (fun cdv A outer s H vs Q E hr h => ⟨t_Drive_operate K a, ?_, pure_Drive_operate T h⟩)
  exact (pss_cons (ps_set (i := 4) sc_Drive_operate.nd rfl (Or.inl rfl) (pe_meth (pv 0) T.c_Drive.cl T.Drive_operation.m (ok_Drive_operation T) (hr.mono (by decide)) T.Drive_operation.b .nil pass0 (pa_cons (pv 1) (pa_cons (pv 2) (pa_cons (pv 3) pa_nil)))))
    (pss_cons (ps_if (pt_cmpR op_ge (pe_fld (pv 4) rfl) pe_int (nomark _)) (pss_cons (ps_for PassesOwn.never rfl (pi_list (pe_fld (pv 4) rfl)) (pg_name (i := 5) sc_Drive_operate.nd rfl (Or.inl rfl)) (pss_one (ps_expr (pe_meth (pe_fld (pv 0) rfl) T.c_Medium.cl T.Medium_act.m (ok_Medium_act T) (hr.mono (by decide)) T.Medium_act.b .nil pass0 (pa_cons (pv 5) pa_nil)))))
    (pss_one (ps_fld (pv 0) (pe_fld (pv 4) rfl) rfl))) pss_nil)
    (pss_one (ps_ret (pe_lst (pa_cons (pe_fld (pv 4) rfl) pa_nil))))))
theorem ok_Drive_cut (T : Tx K mg a) : FnOk P w K mg base CX0 3 a.f_Drive_cut a.d_Drive_cut ["self", "row"] (sp_Drive_cut K a) := by
  refine T.Drive_cut.F.ok sc_Drive_cut (fun vs H Q E h => ln_Drive_cut h) (fun cdv A outer s H vs Q E hr h => ⟨t_Drive_cut K a, ?_, pure_Drive_cut T h⟩)
  exact (pss_cons (ps_expr (pe_meth (pe_fld (pv 0) rfl) T.c_Medium.cl T.Medium_arrive.m (ok_Medium_arrive T) (hr.mono (by decide)) T.Medium_arrive.b .nil pass0 (pa_cons (pv 1) pa_nil)))
    (pss_cons (ps_expr (pe_meth0 (pe_fld (pv 0) rfl) T.c_Medium.cl T.Medium_lose.m (ok_Medium_lose T) (hr.mono (by decide)) T.Medium_lose.b .nil pass0))
    (pss_cons (ps_fld (pv 0) pe_non rfl)
    (pss_one (ps_ret (pe_lst (pa_cons pe_int pa_nil)))))))
theorem ok_Drive_cut_in (T : Tx K mg a) : FnOk P w K mg base CX0 4 a.f_Drive_cut_in a.d_Drive_cut_in ["self", "after", "operation", "row"] (sp_Drive_cut_in K a) := by
  refine T.Drive_cut_in.F.ok sc_Drive_cut_in (fun vs H Q E h => ln_Drive_cut_in h) (fun cdv A outer s H vs Q E hr h => ⟨t_Drive_cut_in K a, ?_, pure_Drive_cut_in T h⟩)
  exact (pss_cons (ps_for PassesOwn.never rfl (pi_list (pe_slice sl_list (pe_fld (pv 2) rfl) po_none (po_some (pv 1)))) (pg_name (i := 4) sc_Drive_cut_in.nd rfl (Or.inl rfl)) (pss_one (ps_expr (pe_meth (pe_fld (pv 0) rfl) T.c_Medium.cl T.Medium_act.m (ok_Medium_act T) (hr.mono (by decide)) T.Medium_act.b .nil pass0 (pa_cons (pv 4) pa_nil)))))
    (pss_one (ps_ret (pe_meth (pv 0) T.c_Drive.cl T.Drive_cut.m (ok_Drive_cut T) (hr.mono (by decide)) T.Drive_cut.b .nil pass0 (pa_cons (pv 3) pa_nil)))))
theorem ok_Drive_arrive (T : Tx K mg a) : FnOk P w K mg base CX0 3 a.f_Drive_arrive a.d_Drive_arrive ["self", "row"] (sp_Drive_arrive K a) := by
  refine T.Drive_arrive.F.ok sc_Drive_arrive (fun vs H Q E h => ln_Drive_arrive h) (fun cdv A outer s H vs Q E hr h => ⟨t_Drive_arrive K a, ?_, pure_Drive_arrive T h⟩)
  exact (pss_cons (ps_expr (pe_meth (pe_fld (pv 0) rfl) T.c_Medium.cl T.Medium_arrive.m (ok_Medium_arrive T) (hr.mono (by decide)) T.Medium_arrive.b .nil pass0 (pa_cons (pv 1) pa_nil)))
    (pss_one (ps_ret (pe_lst (pa_cons pe_int pa_nil)))))
theorem ok_Drive_told (T : Tx K mg a) : FnOk P w K mg base CX0 1 a.f_Drive_told a.d_Drive_told ["self"] (sp_Drive_told K a) := by
  refine T.Drive_told.F.ok sc_Drive_told (fun vs H Q E h => ln_Drive_told h) (fun cdv A outer s H vs Q E hr h => ⟨t_Drive_told K a, ?_, pure_Drive_told T h⟩)
  exact (pss_cons (ps_set (i := 1) sc_Drive_told.nd rfl (Or.inl rfl) (pe_fld (pv 0) rfl))
    (pss_cons (ps_if (pt_cmpR op_isN (pv 1) pe_non (nomark _)) (pss_one (ps_ret (pe_lst (pa_cons (pe_un un_neg pe_int) pa_nil)))) pss_nil)
    (pss_cons (ps_set (i := 2) sc_Drive_told.nd rfl (Or.inl rfl) (pe_fld (pe_fld (pv 1) rfl) rfl))
    (pss_cons (ps_set (i := 3) sc_Drive_told.nd rfl (Or.inl rfl) (pe_lst (pa_cons (pe_fld (pv 2) rfl) (pa_cons (pe_fld (pv 2) rfl) (pa_cons (pe_fld (pv 2) rfl) pa_nil)))))
    (pss_one (ps_ret (pe_op op_cat (pe_op op_cat (pe_lst (pa_cons pe_int pa_nil)) (pv 3)) (pe_lst (pa_cons (pe_fld (pv 1) rfl) (pa_cons (pe_fld (pv 1) rfl) (pa_cons (pe_fld (pv 1) rfl) (pa_cons (pe_fld (pe_fld (pv 1) rfl) rfl) (pa_cons (pe_callB call_len (by rfl) (T.bu "len" (by decide)) (by decide +kernel) (pa_cons (pe_fld (pe_fld (pv 0) rfl) rfl) pa_nil)) pa_nil)))))))))))))
theorem ok_Drive_block (T : Tx K mg a) : FnOk P w K mg base CX0 1 a.f_Drive_block a.d_Drive_block ["self", "b"] (sp_Drive_block K a) := by
  refine T.Drive_block.F.ok sc_Drive_block (fun vs H Q E h => ln_Drive_block h) (fun cdv A outer s H vs Q E hr h => ⟨t_Drive_block K a, ?_, pure_Drive_block T h⟩)
  exact (pss_cons (ps_if (PW.pt (pw_or (pt_cmpR op_lt (pv 1) pe_int (nomark _)) (pw_or1 (pt_cmpR op_ge (pv 1) (pe_callB call_len (by rfl) (T.bu "len" (by decide)) (by decide +kernel) (pa_cons (pe_fld (pe_fld (pv 0) rfl) rfl) pa_nil)) (nomark _))))) (pss_one (ps_ret (pe_lst (pa_cons (pe_un un_neg pe_int) pa_nil)))) pss_nil)
    (pss_one (ps_ret (pe_op op_cat (pe_lst (pa_cons pe_int pa_nil)) (pe_ix ix_list (pe_fld (pe_fld (pv 0) rfl) rfl) (pv 1) (fun _ _ => rfl))))))
theorem ok_Drive_look (T : Tx K mg a) : FnOk P w K mg base CX0 6 a.f_Drive_look a.d_Drive_look ["self"] (sp_Drive_look K a) := by
  refine T.Drive_look.F.ok sc_Drive_look (fun vs H Q E h => ln_Drive_look h) (fun cdv A outer s H vs Q E hr h => ⟨t_Drive_look K a, ?_, pure_Drive_look T h⟩)
  exact (pss_cons (ps_set (i := 1) sc_Drive_look.nd rfl (Or.inl rfl) (pe_call (ok_found_on T) (hr.mono (by decide)) rfl T.found_on.g T.found_on.F.kp T.found_on.b .nil pass0 (pa_cons (pe_fld (pe_fld (pv 0) rfl) rfl) pa_nil)))
    (pss_cons (ps_if (pt_cmpR op_isN (pv 1) pe_non (nomark _)) (pss_one (ps_ret (pe_lst (pa_cons (pe_un un_neg pe_int) pa_nil)))) pss_nil)
    (pss_cons (ps_set (i := 2) sc_Drive_look.nd rfl (Or.inl rfl) (pe_lst (pa_cons pe_int (pa_cons (pe_fld (pe_fld (pv 1) rfl) rfl) (pa_cons (pe_fld (pe_fld (pv 1) rfl) rfl) (pa_cons (pe_fld (pe_fld (pv 1) rfl) rfl) (pa_cons (pe_callB call_len (by rfl) (T.bu "len" (by decide)) (by decide +kernel) (pa_cons (pe_fld (pv 1) rfl) pa_nil)) pa_nil)))))))
    (pss_cons (ps_for PassesOwn.never rfl (pi_list (pe_fld (pv 1) rfl)) (pg_name (i := 3) sc_Drive_look.nd rfl (Or.inl rfl)) (pss_cons (ps_expr (pe_bm PySem.F.plainAttrs_list PySem.F.slot_list_append PySem.F.type_list_append mt_append (pv 2) (pa_cons (pe_callB call_len (by rfl) (T.bu "len" (by decide)) (by decide +kernel) (pa_cons (pe_fld (pv 3) rfl) pa_nil)) pa_nil)))
    (pss_one (ps_expr (pe_bm PySem.F.plainAttrs_list PySem.F.slot_list_extend PySem.F.type_list_extend mt_extend (pv 2) (pa_cons (pe_fld (pv 3) rfl) pa_nil))))))
    (pss_one (ps_ret (pv 2)))))))
theorem ok_Drive_save (T : Tx K mg a) : FnOk P w K mg base CX0 1 a.f_Drive_save a.d_Drive_save ["self"] (sp_Drive_save K a) := by
  refine T.Drive_save.F.ok sc_Drive_save (fun vs H Q E h => ln_Drive_save h) (fun cdv A outer s H vs Q E hr h => ⟨t_Drive_save K a, ?_, pure_Drive_save T h⟩)
  exact (pss_cons (ps_set (i := 1) sc_Drive_save.nd rfl (Or.inl rfl) (pe_lst (pa_cons (pe_callB call_len (by rfl) (T.bu "len" (by decide)) (by decide +kernel) (pa_cons (pe_fld (pe_fld (pv 0) rfl) rfl) pa_nil)) pa_nil)))
    (pss_cons (ps_for PassesOwn.never rfl (pi_list (pe_fld (pe_fld (pv 0) rfl) rfl)) (pg_name (i := 2) sc_Drive_save.nd rfl (Or.inl rfl)) (pss_one (ps_expr (pe_bm PySem.F.plainAttrs_list PySem.F.slot_list_extend PySem.F.type_list_extend mt_extend (pv 1) (pa_cons (pv 2) pa_nil)))))
    (pss_one (ps_ret (pv 1)))))
theorem ok_Drive_load (T : Tx K mg a) : FnOk P w K mg base CX0 3 a.f_Drive_load a.d_Drive_load ["self", "data"] (sp_Drive_load K a) := by
  refine T.Drive_load.F.ok sc_Drive_load (fun vs H Q E h => ln_Drive_load h) (fun cdv A outer s H vs Q E hr h => ⟨t_Drive_load K a, ?_, pure_Drive_load T h⟩)
  exact (pss_cons (ps_if (PW.pt (pw_or (pt_cmpR op_ne (pe_op op_modN (pe_callB call_len (by rfl) (T.bu "len" (by decide)) (by decide +kernel) (pa_cons (pv 1) pa_nil)) (pe_gl rfl T.k_BLOCK_SIZE)) pe_int (nomark _)) (pw_or1 (pt_not (pt_val (pe_call (ok_block_count_is_allowed T) (hr.mono (by decide)) rfl T.block_count_is_allowed.g T.block_count_is_allowed.F.kp T.block_count_is_allowed.b .nil pass0 (pa_cons (pe_op op_fdivN (pe_callB call_len (by rfl) (T.bu "len" (by decide)) (by decide +kernel) (pa_cons (pv 1) pa_nil)) (pe_gl rfl T.k_BLOCK_SIZE)) pa_nil))))))) (pss_one (ps_ret (pe_lst (pa_cons (pe_un un_neg pe_int) pa_nil)))) pss_nil)
    (pss_cons (ps_fld (pv 0) (pe_make T.c_Medium.mkc (ok_Medium_init T) (hr.mono (by decide)) rfl T.c_Medium.g T.Medium_init.b .nil pass0 (pa_cons (pe_call (ok_split_blocks T) (hr.mono (by decide)) rfl T.split_blocks.g T.split_blocks.F.kp T.split_blocks.b .nil pass0 (pa_cons (pv 1) pa_nil)) pa_nil)) rfl)
    (pss_cons (ps_fld (pv 0) pe_non rfl)
    (pss_one (ps_ret (pe_lst (pa_cons pe_int pa_nil)))))))
theorem ok_Drive_plan (T : Tx K mg a) : FnOk P w K mg base CX0 8 a.f_Drive_plan a.d_Drive_plan ["self", "kind", "homes", "data"] (sp_Drive_plan K a) := by
  refine T.Drive_plan.F.ok sc_Drive_plan (fun vs H Q E h => ln_Drive_plan h) (fun cdv A outer s H vs Q E hr h => ⟨t_Drive_plan K a, ?_, pure_Drive_plan T h⟩)
  exact (pss_cons (ps_set (i := 4) sc_Drive_plan.nd rfl (Or.inl rfl) (pe_meth (pv 0) T.c_Drive.cl T.Drive_operation.m (ok_Drive_operation T) (hr.mono (by decide)) T.Drive_operation.b .nil pass0 (pa_cons (pv 1) (pa_cons (pv 2) (pa_cons (pv 3) pa_nil)))))
    (pss_cons (ps_if (pt_cmpR op_lt (pe_fld (pv 4) rfl) pe_int (nomark _)) (pss_one (ps_ret (pe_lst (pa_cons (pe_fld (pv 4) rfl) pa_nil)))) pss_nil)
    (pss_cons (ps_set (i := 5) sc_Drive_plan.nd rfl (Or.inl rfl) (pe_lst (pa_cons pe_int pa_nil)))
    (pss_cons (ps_for PassesOwn.never rfl (pi_list (pe_fld (pv 4) rfl)) (pg_name (i := 6) sc_Drive_plan.nd rfl (Or.inl rfl)) (pss_one (ps_if (pt_cmpR op_isN (pv 6) pe_non (nomark _)) (pss_one (ps_expr (pe_bm PySem.F.plainAttrs_list PySem.F.slot_list_append PySem.F.type_list_append mt_append (pv 5) (pa_cons pe_int pa_nil)))) (pss_one (ps_expr (pe_bm PySem.F.plainAttrs_list PySem.F.slot_list_extend PySem.F.type_list_extend mt_extend (pv 5) (pa_cons (pe_lst (pa_cons (pe_op op_add (pe_ix ix_tup (pv 6) pe_int (fun _ _ => rfl)) pe_int) (pa_cons (pe_call (ok_sum_of T) (hr.mono (by decide)) rfl T.sum_of.g T.sum_of.F.kp T.sum_of.b .nil pass0 (pa_cons (pe_ix ix_tup (pv 6) pe_int (fun _ _ => rfl)) pa_nil)) pa_nil))) pa_nil)))))))
    (pss_one (ps_ret (pv 5)))))))
theorem ok_Reader_init (T : Tx K mg a) : FnOk P w K mg base CX0 1 a.f_Reader_init a.d_Reader_init ["self", "calls"] (sp_Reader_init K a) := by
  refine T.Reader_init.F.ok sc_Reader_init (fun vs H Q E h => ln_Reader_init h) (fun cdv A outer s H vs Q E hr h => ⟨t_Reader_init K a, ?_, pure_Reader_init T h⟩)
  exact (pss_cons (ps_fld (pv 0) (pv 1) rfl)
    (pss_one (ps_fld (pv 0) pe_int rfl)))
theorem ok_Reader_is_at_end (T : Tx K mg a) : FnOk P w K mg base CX0 1 a.f_Reader_is_at_end a.d_Reader_is_at_end ["self"] (sp_Reader_is_at_end K a) := by
  refine T.Reader_is_at_end.F.ok sc_Reader_is_at_end (fun vs H Q E h => ln_Reader_is_at_end h) (fun cdv A outer s H vs Q E hr h => ⟨t_Reader_is_at_end K a, ?_, pure_Reader_is_at_end T h⟩)
  exact (pss_one (ps_ret (pe_cmpR op_eq (pe_fld (pv 0) rfl) (pe_callB call_len (by rfl) (T.bu "len" (by decide)) (by decide +kernel) (pa_cons (pe_fld (pv 0) rfl) pa_nil)) (nomark _))))
theorem ok_Reader_take (T : Tx K mg a) : FnOk P w K mg base CX0 1 a.f_Reader_take a.d_Reader_take ["self"] (sp_Reader_take K a) := by
  refine T.Reader_take.F.ok sc_Reader_take (fun vs H Q E h => ln_Reader_take h) (fun cdv A outer s H vs Q E hr h => ⟨t_Reader_take K a, ?_, pure_Reader_take T h⟩)
  exact (pss_cons (ps_fld (pv 0) (pe_op op_add (pe_fld (pv 0) rfl) pe_int) rfl)
    (pss_one (ps_ret (pe_ix ix_list (pe_fld (pv 0) rfl) (pe_op op_sub (pe_fld (pv 0) rfl) pe_int) (fun _ _ => rfl)))))
theorem ok_Reader_take_row (T : Tx K mg a) : FnOk P w K mg base CX0 2 a.f_Reader_take_row a.d_Reader_take_row ["self"] (sp_Reader_take_row K a) := by
  refine T.Reader_take_row.F.ok sc_Reader_take_row (fun vs H Q E h => ln_Reader_take_row h) (fun cdv A outer s H vs Q E hr h => ⟨t_Reader_take_row K a, ?_, pure_Reader_take_row T h⟩)
  exact (pss_cons (ps_set (i := 1) sc_Reader_take_row.nd rfl (Or.inl rfl) (pe_meth0 (pv 0) T.c_Reader.cl T.Reader_take.m (ok_Reader_take T) (hr.mono (by decide)) T.Reader_take.b .nil pass0))
    (pss_cons (ps_fld (pv 0) (pe_op op_add (pe_fld (pv 0) rfl) (pv 1)) rfl)
    (pss_one (ps_ret (pe_slice sl_list (pe_fld (pv 0) rfl) (po_some (pe_op op_sub (pe_fld (pv 0) rfl) (pv 1))) (po_some (pe_fld (pv 0) rfl)))))))
end
end Dk
namespace Dk
open PySem PySem.Spec PyProof.Rows L2
section
variable {P : Program} {w : World} {K : PySem.W.Frag} {mg : Str → Option Value} {base : Heap} {a : Ad}
theorem ok_call_make (T : Tx K mg a) : FnOk P w K mg base CX0 4 a.f_call_make a.d_call_make ["drive", "reader"] (sp_call_make K a) := by
  refine T.call_make.F.ok sc_call_make (fun vs H Q E h => ln_call_make h) (fun cdv A outer s H vs Q E hr h => ⟨t_call_make K a, ?_, pure_call_make T h⟩)
  exact (pss_cons (ps_set (i := 2) sc_call_make.nd rfl (Or.inl rfl) (pe_meth0 (pv 1) T.c_Reader.cl T.Reader_take.m (ok_Reader_take T) (hr.mono (by decide)) T.Reader_take.b .nil pass0))
    (pss_cons (ps_set (i := 3) sc_call_make.nd rfl (Or.inl rfl) (pe_meth0 (pv 1) T.c_Reader.cl T.Reader_take.m (ok_Reader_take T) (hr.mono (by decide)) T.Reader_take.b .nil pass0))
    (pss_one (ps_ret (pe_meth (pv 0) T.c_Drive.cl T.Drive_make.m (ok_Drive_make T) (hr.mono (by decide)) T.Drive_make.b .nil pass0 (pa_cons (pv 2) (pa_cons (pv 3) pa_nil)))))))
theorem ok_call_read (T : Tx K mg a) : FnOk P w K mg base CX0 3 a.f_call_read a.d_call_read ["drive", "reader"] (sp_call_read K a) := by
  refine T.call_read.F.ok sc_call_read (fun vs H Q E h => ln_call_read h) (fun cdv A outer s H vs Q E hr h => ⟨t_call_read K a, ?_, pure_call_read T h⟩)
  exact (pss_one (ps_ret (pe_meth (pv 0) T.c_Drive.cl T.Drive_read.m (ok_Drive_read T) (hr.mono (by decide)) T.Drive_read.b .nil pass0 (pa_cons (pe_meth0 (pv 1) T.c_Reader.cl T.Reader_take.m (ok_Reader_take T) (hr.mono (by decide)) T.Reader_take.b .nil pass0) pa_nil))))
theorem ok_call_commit (T : Tx K mg a) : FnOk P w K mg base CX0 9 a.f_call_commit a.d_call_commit ["drive", "reader"] (sp_call_commit K a) := by
  refine T.call_commit.F.ok sc_call_commit (fun vs H Q E h => ln_call_commit h) (fun cdv A outer s H vs Q E hr h => ⟨t_call_commit K a, ?_, pure_call_commit T h⟩)
  exact (pss_cons (ps_set (i := 2) sc_call_commit.nd rfl (Or.inl rfl) (pe_meth0 (pv 1) T.c_Reader.cl T.Reader_take_row.m (ok_Reader_take_row T) (hr.mono (by decide)) T.Reader_take_row.b .nil pass0))
    (pss_cons (ps_set (i := 3) sc_call_commit.nd rfl (Or.inl rfl) (pe_meth0 (pv 1) T.c_Reader.cl T.Reader_take_row.m (ok_Reader_take_row T) (hr.mono (by decide)) T.Reader_take_row.b .nil pass0))
    (pss_one (ps_ret (pe_meth (pv 0) T.c_Drive.cl T.Drive_operate.m (ok_Drive_operate T) (hr.mono (by decide)) T.Drive_operate.b .nil pass0 (pa_cons (pe_gl rfl T.k_COMMIT) (pa_cons (pv 2) (pa_cons (pv 3) pa_nil))))))))
theorem ok_call_flush (T : Tx K mg a) : FnOk P w K mg base CX0 9 a.f_call_flush a.d_call_flush ["drive", "reader"] (sp_call_flush K a) := by
  refine T.call_flush.F.ok sc_call_flush (fun vs H Q E h => ln_call_flush h) (fun cdv A outer s H vs Q E hr h => ⟨t_call_flush K a, ?_, pure_call_flush T h⟩)
  exact (pss_one (ps_ret (pe_meth (pv 0) T.c_Drive.cl T.Drive_operate.m (ok_Drive_operate T) (hr.mono (by decide)) T.Drive_operate.b .nil pass0 (pa_cons (pe_gl rfl T.k_FLUSH) (pa_cons (pe_lst pa_nil) (pa_cons (pe_lst pa_nil) pa_nil))))))
theorem ok_call_settle (T : Tx K mg a) : FnOk P w K mg base CX0 9 a.f_call_settle a.d_call_settle ["drive", "reader"] (sp_call_settle K a) := by
  refine T.call_settle.F.ok sc_call_settle (fun vs H Q E h => ln_call_settle h) (fun cdv A outer s H vs Q E hr h => ⟨t_call_settle K a, ?_, pure_call_settle T h⟩)
  exact (pss_one (ps_ret (pe_meth (pv 0) T.c_Drive.cl T.Drive_operate.m (ok_Drive_operate T) (hr.mono (by decide)) T.Drive_operate.b .nil pass0 (pa_cons (pe_gl rfl T.k_SETTLE) (pa_cons (pe_lst pa_nil) (pa_cons (pe_lst pa_nil) pa_nil))))))
theorem ok_call_mend (T : Tx K mg a) : FnOk P w K mg base CX0 9 a.f_call_mend a.d_call_mend ["drive", "reader"] (sp_call_mend K a) := by
  refine T.call_mend.F.ok sc_call_mend (fun vs H Q E h => ln_call_mend h) (fun cdv A outer s H vs Q E hr h => ⟨t_call_mend K a, ?_, pure_call_mend T h⟩)
  exact (pss_one (ps_ret (pe_meth (pv 0) T.c_Drive.cl T.Drive_operate.m (ok_Drive_operate T) (hr.mono (by decide)) T.Drive_operate.b .nil pass0 (pa_cons (pe_gl rfl T.k_MEND) (pa_cons (pe_lst pa_nil) (pa_cons (pe_lst pa_nil) pa_nil))))))
theorem ok_call_cut (T : Tx K mg a) : FnOk P w K mg base CX0 4 a.f_call_cut a.d_call_cut ["drive", "reader"] (sp_call_cut K a) := by
  refine T.call_cut.F.ok sc_call_cut (fun vs H Q E h => ln_call_cut h) (fun cdv A outer s H vs Q E hr h => ⟨t_call_cut K a, ?_, pure_call_cut T h⟩)
  exact (pss_one (ps_ret (pe_meth (pv 0) T.c_Drive.cl T.Drive_cut.m (ok_Drive_cut T) (hr.mono (by decide)) T.Drive_cut.b .nil pass0 (pa_cons (pe_meth0 (pv 1) T.c_Reader.cl T.Reader_take_row.m (ok_Reader_take_row T) (hr.mono (by decide)) T.Reader_take_row.b .nil pass0) pa_nil))))
theorem ok_call_cut_in (T : Tx K mg a) : FnOk P w K mg base CX0 8 a.f_call_cut_in a.d_call_cut_in ["drive", "reader"] (sp_call_cut_in K a) := by
  refine T.call_cut_in.F.ok sc_call_cut_in (fun vs H Q E h => ln_call_cut_in h) (fun cdv A outer s H vs Q E hr h => ⟨t_call_cut_in K a, ?_, pure_call_cut_in T h⟩)
  exact (pss_cons (ps_set (i := 2) sc_call_cut_in.nd rfl (Or.inl rfl) (pe_meth0 (pv 1) T.c_Reader.cl T.Reader_take.m (ok_Reader_take T) (hr.mono (by decide)) T.Reader_take.b .nil pass0))
    (pss_cons (ps_set (i := 3) sc_call_cut_in.nd rfl (Or.inl rfl) (pe_meth0 (pv 1) T.c_Reader.cl T.Reader_take.m (ok_Reader_take T) (hr.mono (by decide)) T.Reader_take.b .nil pass0))
    (pss_cons (ps_set (i := 4) sc_call_cut_in.nd rfl (Or.inl rfl) (pe_meth0 (pv 1) T.c_Reader.cl T.Reader_take_row.m (ok_Reader_take_row T) (hr.mono (by decide)) T.Reader_take_row.b .nil pass0))
    (pss_cons (ps_set (i := 5) sc_call_cut_in.nd rfl (Or.inl rfl) (pe_meth0 (pv 1) T.c_Reader.cl T.Reader_take_row.m (ok_Reader_take_row T) (hr.mono (by decide)) T.Reader_take_row.b .nil pass0))
    (pss_cons (ps_set (i := 6) sc_call_cut_in.nd rfl (Or.inl rfl) (pe_meth0 (pv 1) T.c_Reader.cl T.Reader_take_row.m (ok_Reader_take_row T) (hr.mono (by decide)) T.Reader_take_row.b .nil pass0))
    (pss_one (ps_ret (pe_meth (pv 0) T.c_Drive.cl T.Drive_cut_in.m (ok_Drive_cut_in T) (hr.mono (by decide)) T.Drive_cut_in.b .nil pass0 (pa_cons (pv 2) (pa_cons (pe_meth (pv 0) T.c_Drive.cl T.Drive_operation.m (ok_Drive_operation T) (hr.mono (by decide)) T.Drive_operation.b .nil pass0 (pa_cons (pv 3) (pa_cons (pv 5) (pa_cons (pv 6) pa_nil)))) (pa_cons (pv 4) pa_nil)))))))))))
theorem ok_call_arrive (T : Tx K mg a) : FnOk P w K mg base CX0 4 a.f_call_arrive a.d_call_arrive ["drive", "reader"] (sp_call_arrive K a) := by
  refine T.call_arrive.F.ok sc_call_arrive (fun vs H Q E h => ln_call_arrive h) (fun cdv A outer s H vs Q E hr h => ⟨t_call_arrive K a, ?_, pure_call_arrive T h⟩)
  exact (pss_one (ps_ret (pe_meth (pv 0) T.c_Drive.cl T.Drive_arrive.m (ok_Drive_arrive T) (hr.mono (by decide)) T.Drive_arrive.b .nil pass0 (pa_cons (pe_meth0 (pv 1) T.c_Reader.cl T.Reader_take_row.m (ok_Reader_take_row T) (hr.mono (by decide)) T.Reader_take_row.b .nil pass0) pa_nil))))
theorem ok_call_told (T : Tx K mg a) : FnOk P w K mg base CX0 2 a.f_call_told a.d_call_told ["drive", "reader"] (sp_call_told K a) := by
  refine T.call_told.F.ok sc_call_told (fun vs H Q E h => ln_call_told h) (fun cdv A outer s H vs Q E hr h => ⟨t_call_told K a, ?_, pure_call_told T h⟩)
  exact (pss_one (ps_ret (pe_meth0 (pv 0) T.c_Drive.cl T.Drive_told.m (ok_Drive_told T) (hr.mono (by decide)) T.Drive_told.b .nil pass0)))
theorem ok_call_block (T : Tx K mg a) : FnOk P w K mg base CX0 2 a.f_call_block a.d_call_block ["drive", "reader"] (sp_call_block K a) := by
  refine T.call_block.F.ok sc_call_block (fun vs H Q E h => ln_call_block h) (fun cdv A outer s H vs Q E hr h => ⟨t_call_block K a, ?_, pure_call_block T h⟩)
  exact (pss_one (ps_ret (pe_meth (pv 0) T.c_Drive.cl T.Drive_block.m (ok_Drive_block T) (hr.mono (by decide)) T.Drive_block.b .nil pass0 (pa_cons (pe_meth0 (pv 1) T.c_Reader.cl T.Reader_take.m (ok_Reader_take T) (hr.mono (by decide)) T.Reader_take.b .nil pass0) pa_nil))))
theorem ok_call_look (T : Tx K mg a) : FnOk P w K mg base CX0 7 a.f_call_look a.d_call_look ["drive", "reader"] (sp_call_look K a) := by
  refine T.call_look.F.ok sc_call_look (fun vs H Q E h => ln_call_look h) (fun cdv A outer s H vs Q E hr h => ⟨t_call_look K a, ?_, pure_call_look T h⟩)
  exact (pss_one (ps_ret (pe_meth0 (pv 0) T.c_Drive.cl T.Drive_look.m (ok_Drive_look T) (hr.mono (by decide)) T.Drive_look.b .nil pass0)))
theorem ok_call_save (T : Tx K mg a) : FnOk P w K mg base CX0 2 a.f_call_save a.d_call_save ["drive", "reader"] (sp_call_save K a) := by
  refine T.call_save.F.ok sc_call_save (fun vs H Q E h => ln_call_save h) (fun cdv A outer s H vs Q E hr h => ⟨t_call_save K a, ?_, pure_call_save T h⟩)
  exact (pss_one (ps_ret (pe_meth0 (pv 0) T.c_Drive.cl T.Drive_save.m (ok_Drive_save T) (hr.mono (by decide)) T.Drive_save.b .nil pass0)))
theorem ok_call_load (T : Tx K mg a) : FnOk P w K mg base CX0 4 a.f_call_load a.d_call_load ["drive", "reader"] (sp_call_load K a) := by
  refine T.call_load.F.ok sc_call_load (fun vs H Q E h => ln_call_load h) (fun cdv A outer s H vs Q E hr h => ⟨t_call_load K a, ?_, pure_call_load T h⟩)
  exact (pss_one (ps_ret (pe_meth (pv 0) T.c_Drive.cl T.Drive_load.m (ok_Drive_load T) (hr.mono (by decide)) T.Drive_load.b .nil pass0 (pa_cons (pe_meth0 (pv 1) T.c_Reader.cl T.Reader_take_row.m (ok_Reader_take_row T) (hr.mono (by decide)) T.Reader_take_row.b .nil pass0) pa_nil))))
theorem ok_call_plan (T : Tx K mg a) : FnOk P w K mg base CX0 9 a.f_call_plan a.d_call_plan ["drive", "reader"] (sp_call_plan K a) := by
  refine T.call_plan.F.ok sc_call_plan (fun vs H Q E h => ln_call_plan h) (fun cdv A outer s H vs Q E hr h => ⟨t_call_plan K a, ?_, pure_call_plan T h⟩)
  exact (pss_cons (ps_set (i := 2) sc_call_plan.nd rfl (Or.inl rfl) (pe_meth0 (pv 1) T.c_Reader.cl T.Reader_take.m (ok_Reader_take T) (hr.mono (by decide)) T.Reader_take.b .nil pass0))
    (pss_cons (ps_set (i := 3) sc_call_plan.nd rfl (Or.inl rfl) (pe_meth0 (pv 1) T.c_Reader.cl T.Reader_take_row.m (ok_Reader_take_row T) (hr.mono (by decide)) T.Reader_take_row.b .nil pass0))
    (pss_cons (ps_set (i := 4) sc_call_plan.nd rfl (Or.inl rfl) (pe_meth0 (pv 1) T.c_Reader.cl T.Reader_take_row.m (ok_Reader_take_row T) (hr.mono (by decide)) T.Reader_take_row.b .nil pass0))
    (pss_one (ps_ret (pe_meth (pv 0) T.c_Drive.cl T.Drive_plan.m (ok_Drive_plan T) (hr.mono (by decide)) T.Drive_plan.b .nil pass0 (pa_cons (pv 2) (pa_cons (pv 3) (pa_cons (pv 4) pa_nil)))))))))
theorem ok_call_sum (T : Tx K mg a) : FnOk P w K mg base CX0 3 a.f_call_sum a.d_call_sum ["drive", "reader"] (sp_call_sum K a) := by
  refine T.call_sum.F.ok sc_call_sum (fun vs H Q E h => ln_call_sum h) (fun cdv A outer s H vs Q E hr h => ⟨t_call_sum K a, ?_, pure_call_sum T h⟩)
  exact (pss_one (ps_ret (pe_lst (pa_cons (pe_call (ok_sum_of T) (hr.mono (by decide)) rfl T.sum_of.g T.sum_of.F.kp T.sum_of.b .nil pass0 (pa_cons (pe_meth0 (pv 1) T.c_Reader.cl T.Reader_take_row.m (ok_Reader_take_row T) (hr.mono (by decide)) T.Reader_take_row.b .nil pass0) pa_nil)) pa_nil))))
theorem ok_table (T : Tx K mg a) : ∀ f sp, spTable K a f sp → Held P w K mg base 9 f sp := by
  rintro f sp ⟨p, hf, rfl⟩
  match p, hf with
  | 0, hf => cases (Option.some.inj hf : a.f_call_make = f); exact ⟨_, _, (ok_call_make T).mono (by decide), T.call_make.F.kp, T.call_make.b⟩
  | 1, hf => cases (Option.some.inj hf : a.f_call_read = f); exact ⟨_, _, (ok_call_read T).mono (by decide), T.call_read.F.kp, T.call_read.b⟩
  | 2, hf => cases (Option.some.inj hf : a.f_call_commit = f); exact ⟨_, _, (ok_call_commit T).mono (by decide), T.call_commit.F.kp, T.call_commit.b⟩
  | 3, hf => cases (Option.some.inj hf : a.f_call_flush = f); exact ⟨_, _, (ok_call_flush T).mono (by decide), T.call_flush.F.kp, T.call_flush.b⟩
  | 4, hf => cases (Option.some.inj hf : a.f_call_settle = f); exact ⟨_, _, (ok_call_settle T).mono (by decide), T.call_settle.F.kp, T.call_settle.b⟩
  | 5, hf => cases (Option.some.inj hf : a.f_call_mend = f); exact ⟨_, _, (ok_call_mend T).mono (by decide), T.call_mend.F.kp, T.call_mend.b⟩
  | 6, hf => cases (Option.some.inj hf : a.f_call_cut = f); exact ⟨_, _, (ok_call_cut T).mono (by decide), T.call_cut.F.kp, T.call_cut.b⟩
  | 7, hf => cases (Option.some.inj hf : a.f_call_cut_in = f); exact ⟨_, _, (ok_call_cut_in T).mono (by decide), T.call_cut_in.F.kp, T.call_cut_in.b⟩
  | 8, hf => cases (Option.some.inj hf : a.f_call_arrive = f); exact ⟨_, _, (ok_call_arrive T).mono (by decide), T.call_arrive.F.kp, T.call_arrive.b⟩
  | 9, hf => cases (Option.some.inj hf : a.f_call_told = f); exact ⟨_, _, (ok_call_told T).mono (by decide), T.call_told.F.kp, T.call_told.b⟩
  | 10, hf => cases (Option.some.inj hf : a.f_call_block = f); exact ⟨_, _, (ok_call_block T).mono (by decide), T.call_block.F.kp, T.call_block.b⟩
  | 11, hf => cases (Option.some.inj hf : a.f_call_look = f); exact ⟨_, _, (ok_call_look T).mono (by decide), T.call_look.F.kp, T.call_look.b⟩
  | 12, hf => cases (Option.some.inj hf : a.f_call_save = f); exact ⟨_, _, (ok_call_save T).mono (by decide), T.call_save.F.kp, T.call_save.b⟩
  | 13, hf => cases (Option.some.inj hf : a.f_call_load = f); exact ⟨_, _, (ok_call_load T).mono (by decide), T.call_load.F.kp, T.call_load.b⟩
  | 14, hf => cases (Option.some.inj hf : a.f_call_plan = f); exact ⟨_, _, (ok_call_plan T).mono (by decide), T.call_plan.F.kp, T.call_plan.b⟩
  | 15, hf => cases (Option.some.inj hf : a.f_call_sum = f); exact ⟨_, _, (ok_call_sum T).mono (by decide), T.call_sum.F.kp, T.call_sum.b⟩
  | n + 16, hf => cases (show (none : Option Addr) = some f from hf)
end
end Dk
namespace Dk
open PySem PySem.Spec PyProof.Rows L2
section
variable {P : Program} {w : World} {K : PySem.W.Frag} {mg : Str → Option Value} {base : Heap} {a : Ad}
theorem ok_answers (T : Tx K mg a) : FnOk P w K mg base CX0 10 a.f_answers a.d_answers ["calls"] (sp_answers K a) := by
  refine T.answers.F.ok sc_answers (fun vs H Q E h => ln_answers h) (fun cdv A outer s H vs Q E hr h => ⟨t_answers K a, ?_, pure_answers T h⟩)
  exact (pss_cons (ps_set (i := 1) sc_answers.nd rfl (Or.inl rfl) (pe_make T.c_Reader.mkc (ok_Reader_init T) (hr.mono (by decide)) rfl T.c_Reader.g T.Reader_init.b .nil pass0 (pa_cons (pv 0) pa_nil)))
    (pss_cons (ps_set (i := 2) sc_answers.nd rfl (Or.inl rfl) (pe_make0 T.c_Drive.mkc (ok_Drive_init T) (hr.mono (by decide)) rfl T.c_Drive.g T.Drive_init.b .nil pass0))
    (pss_cons (ps_set (i := 3) sc_answers.nd rfl (Or.inl rfl) (pe_lst pa_nil))
    (pss_cons (ps_while PassesOwn.never (pt_not (pt_val (pe_meth0 (pv 1) T.c_Reader.cl T.Reader_is_at_end.m (ok_Reader_is_at_end T) (hr.mono (by decide)) T.Reader_is_at_end.b .nil pass0))) (pss_cons (ps_set (i := 4) sc_answers.nd rfl (Or.inl rfl) (pe_ix ix_tup (pe_gl rfl T.k_CALLS) (pe_meth0 (pv 1) T.c_Reader.cl T.Reader_take.m (ok_Reader_take T) (hr.mono (by decide)) T.Reader_take.b .nil pass0) (fun _ _ => rfl)))
    (pss_cons (ps_set (i := 5) sc_answers.nd rfl (Or.inl rfl) (pe_lock (pe_callR (i := 4) (ok_table T) (hr.mono (by decide)) rfl (Or.inl rfl) (pa_cons (pv 2) (pa_cons (pv 1) pa_nil)))))
    (pss_cons (ps_expr (pe_bm PySem.F.plainAttrs_list PySem.F.slot_list_append PySem.F.type_list_append mt_append (pv 3) (pa_cons (pe_callB call_len (by rfl) (T.bu "len" (by decide)) (by decide +kernel) (pa_cons (pv 5) pa_nil)) pa_nil)))
    (pss_one (ps_expr (pe_bm PySem.F.plainAttrs_list PySem.F.slot_list_extend PySem.F.type_list_extend mt_extend (pv 3) (pa_cons (pv 5) pa_nil))))))))
    (pss_one (ps_ret (pv 3)))))))
end
end Dk
namespace Dk
open PySem PySem.Spec PyProof.Rows L2
def spAns (K : PySem.W.Frag) : Sp := fun vs H Q _ => ∃ c ns, vs = [.ref c] ∧ SqL K H c (List.map V.int ns) ∧ PyFm08.answers_asked ns = true ∧ ∀ H' r, LI H' r (PyFm08.answers ns) → Q (.ref r) H'
open PySem.W (Codec) in
theorem caseS : ∀ (K : PySem.W.Frag) (H : Hp) (xs : List V) (a : Codec.denoteAll PySem.Challenge.rw_sparedisk_s01_answers.args), OnlyF H → Codec.withinAll PySem.Challenge.rw_sparedisk_s01_answers.args a = true → Codec.app PySem.Challenge.rw_sparedisk_s01_answers.args PySem.Challenge.rw_sparedisk_s01_answers.asked a = true →
    DwAll K H xs (Codec.encAll PySem.Challenge.rw_sparedisk_s01_answers.args a) → spAns K xs H (fun v H' => Dw K H' v (PySem.Challenge.rw_sparedisk_s01_answers.ret.enc (Codec.app PySem.Challenge.rw_sparedisk_s01_answers.args PySem.Challenge.rw_sparedisk_s01_answers.f a))) fun _ _ _ => False := by
  intro K H xs a hO hwi hask hx
  cases hx with
  | cons h1 h2 =>
    cases h2
    cases h1 with
    | lst hs ha =>
      have e := L2.ints_dw a.1 _ ha
      subst e
      exact ⟨_, a.1, rfl, hs, hask, fun H' p hp => .lst (L2.SqL.of hp) (L2.dw_ints _)⟩
end Dk
namespace Dk
open PySem PySem.Spec PyProof.Rows L2
/-- a def of the top, by what the head tells -/
theorem defT_mk {K : PySem.W.Frag} {h : Heap} {mg : Str → Option Value} {x : Str} {st : Stmt} {ps : List Str} {f : Addr} {oc : Value} {od an : Option Addr} {osl : Array (Option Value)} {kV doc pm cdv ct : Value} (X : K.In h) (G : h.Ns mainGlobals mg)
    (hb : ∀ (kV doc pm : Value) (an : Option Addr) (cdv ct : Value) (us : List Value), us.length = ps.length → bindArgs (PySem.W.fnOf x x (defArgs st) (defBody st) (defScope st) .none kV doc pm an cdv ct) ⟨us, []⟩ = pure (ps.zip us))
    (n : PySem.W.nsIn K mainGlobals x = some (some (.ref f))) (l : K.lookup f = some ⟨oc, od, .func (PySem.W.fnOf x x (defArgs st) (defBody st) (defScope st) .none kV doc pm an cdv ct), osl⟩) (c : PySem.W.codeIn K cdv x = true) (k : PySem.W.keepIn K (.ref f) = true) :
    DefT K mg x st ps f (PySem.W.fnOf x x (defArgs st) (defBody st) (defScope st) .none kV doc pm an cdv ct) := ⟨PySem.W.mg_of X G n, fun_mk l c k, (fun_mk l c k).binds hb⟩
theorem methT_mk {K : PySem.W.Frag} {C : Addr} {x qual : Str} {st : Stmt} {ps : List Str} {f : Addr} {oc : Value} {od an : Option Addr} {osl : Array (Option Value)} {kV doc pm cdv ct : Value}
    (hb : ∀ (kV doc pm : Value) (an : Option Addr) (cdv ct : Value) (us : List Value), us.length = ps.length → bindArgs (PySem.W.fnOf x qual (defArgs st) (defBody st) (defScope st) .none kV doc pm an cdv ct) ⟨us, []⟩ = pure (ps.zip us))
    (n : PySem.W.findIn K (.ref C) x = some (some (.ref f))) (i : PySem.W.isFn K (.ref f) = true) (l : K.lookup f = some ⟨oc, od, .func (PySem.W.fnOf x qual (defArgs st) (defBody st) (defScope st) .none kV doc pm an cdv ct), osl⟩) (c : PySem.W.codeIn K cdv qual = true) (k : PySem.W.keepIn K (.ref f) = true) :
    MethT K C x qual st ps f (PySem.W.fnOf x qual (defArgs st) (defBody st) (defScope st) .none kV doc pm an cdv ct) := ⟨⟨n, i, k⟩, fun_mk l c k, (fun_mk l c k).binds hb⟩
theorem funT_mk {K : PySem.W.Frag} {x qual : Str} {st : Stmt} {ps : List Str} {f : Addr} {oc : Value} {od an : Option Addr} {osl : Array (Option Value)} {kV doc pm cdv ct : Value}
    (hb : ∀ (kV doc pm : Value) (an : Option Addr) (cdv ct : Value) (us : List Value), us.length = ps.length → bindArgs (PySem.W.fnOf x qual (defArgs st) (defBody st) (defScope st) .none kV doc pm an cdv ct) ⟨us, []⟩ = pure (ps.zip us))
    (l : K.lookup f = some ⟨oc, od, .func (PySem.W.fnOf x qual (defArgs st) (defBody st) (defScope st) .none kV doc pm an cdv ct), osl⟩) (c : PySem.W.codeIn K cdv qual = true) (k : PySem.W.keepIn K (.ref f) = true) :
    FunT K x qual st ps f (PySem.W.fnOf x qual (defArgs st) (defBody st) (defScope st) .none kV doc pm an cdv ct) := ⟨fun_mk l c k, (fun_mk l c k).binds hb⟩
theorem clsT_mk {K : PySem.W.Frag} {h : Heap} {mg : Str → Option Value} {x : Str} {C fi : Addr} {ats : List Str} (X : K.In h) (G : h.Ns mainGlobals mg) (n : PySem.W.nsIn K mainGlobals x = some (some (.ref C))) (pg : PySem.W.plainGet K C Str.empty = true) (hd : PySem.W.hasDictIn K C = true)
    (po : PySem.W.plainOver K C = true) (sa : PySem.W.findIn K (.ref C) "__setattr__" = some (some (.builtin "object.__setattr__"))) (mk : PySem.W.makesIn K C = true) (ini : PySem.W.findIn K (.ref C) "__init__" = some (some (.ref fi))) (fn : PySem.W.isFn K (.ref fi) = true) (kc : PySem.W.keepIn K (.ref C) = true)
    (na : ∀ f ∈ ats, NoAttr K C f) : ClsT K mg x C fi ats := ⟨⟨pg, hd, po, sa⟩, na, ⟨mk, ini, fn, kc⟩, PySem.W.mg_of X G n⟩
theorem cons_all {α : Type} {P : α → Prop} {x : α} {l : List α} (h : P x) (t : ∀ y ∈ l, P y) : ∀ y ∈ x :: l, P y := fun y m => (List.mem_cons.mp m).elim (fun e => e ▸ h) (t y)
theorem nil_all {α : Type} {P : α → Prop} : ∀ y ∈ ([] : List α), P y := fun y m => by cases m
theorem const_mk {K : PySem.W.Frag} {h : Heap} {mg : Str → Option Value} {x : Str} {i : Int} {t : Tok} (X : K.In h) (G : h.Ns mainGlobals mg) (n : PySem.W.nsIn K mainGlobals x = some (some (.int i t))) : ∃ u, mg x = some u ∧ RelV (V.int i) u := ⟨_, PySem.W.mg_of X G n, t, rfl⟩
theorem constR_mk {K : PySem.W.Frag} {h : Heap} {mg : Str → Option Value} {x : Str} {p : Addr} (X : K.In h) (G : h.Ns mainGlobals mg) (n : PySem.W.nsIn K mainGlobals x = some (some (.ref p))) : ∃ u, mg x = some u ∧ RelV (V.ref p) u := ⟨_, PySem.W.mg_of X G n, rfl⟩
theorem tup_mk {K : PySem.W.Frag} {p : Addr} {xs : List V} {od : Option Addr} {its : Array Value} {n : Nat} {sl : Array (Option Value)} (l : K.lookup p = some ⟨.type "tuple", od, .seq its n, sl⟩) (hz : its.size ≤ sizeLine) (r : Vals xs its.toList) : ∀ H : Hp, SqT K H p xs := fun _ => .inr ⟨_, its, n, l, rfl, rfl, hz, r⟩
theorem spAns_of {P : Program} {w : World} {K : PySem.W.Frag} {mg : Str → Option Value} {base : Heap} {a : Ad} (T : Tx K mg a) : FnOk P w K mg base CX0 10 a.f_answers a.d_answers ["calls"] (spAns K) := (ok_answers T).imp fun _ _ _ _ h => h
theorem fin_mk {P : Program} {w : World} {K : PySem.W.Frag} {h : Heap} {mg : Str → Option Value} {fa : Addr} {a : Ad} (X : K.In h) (G : h.Ns mainGlobals mg) (hfa : mg "answers" = some (.ref fa)) (T : Tx K mg a) :
    ∃ fd : FuncData, (∀ (s : Shared) (us : List Value), us.length = (["calls"] : List Str).length → BindsTo s fd ⟨us, []⟩ ((["calls"] : List Str).zip us)) ∧ ∀ base : Heap, K.In base → base.Ns mainGlobals mg → FnOk P w K mg base CX0 10 fa fd ["calls"] (spAns K) := by
  have e := hfa.symm.trans T.answers.g
  cases e
  refine ⟨a.d_answers, ?_, fun base _ _ => spAns_of T⟩
  obtain ⟨oc, od, kV, doc, pm, an, cdv, ct, osl, e, _⟩ := T.answers.F.ex
  rw [e]
  exact fun s us hu => match us, hu with | [_], _ => .of_eq rfl
theorem fin_mk2 {P : Program} {w : World} {K : PySem.W.Frag} {h : Heap} {mg : Str → Option Value} {fa : Addr} {c_Shape c_Head c_Transaction c_Found c_Medium c_Known c_Operation c_Drive c_Reader f_Shape_init f_Shape_block_of_home f_Shape_block_of_place f_Head_init f_Transaction_init f_Found_init f_Medium_init f_Medium_wait f_Medium_act f_Medium_put_first_bytes f_Medium_arrive f_Medium_lose f_Known_init f_Operation_init f_Drive_init f_block_count_is_allowed f_shape_is_allowed f_letters f_number_bytes f_sum_of f_head_block f_Drive_make f_Drive_read f_refused f_number_at f_head_in f_counting_head f_homes_are_allowed f_transaction_blocks f_transaction_at f_found_on f_home_writes f_head_write f_mend_operation f_split_blocks f_settle_operation f_known_behind f_commit_operation f_flush_operation f_Drive_operation f_Drive_operate f_Drive_cut f_Drive_cut_in f_Drive_arrive f_Drive_told f_Drive_block f_Drive_look f_Drive_save f_Drive_load f_Drive_plan f_Reader_init f_Reader_is_at_end f_Reader_take f_Reader_take_row f_call_make f_call_read f_call_commit f_call_flush f_call_settle f_call_mend f_call_cut f_call_cut_in f_call_arrive f_call_told f_call_block f_call_look f_call_save f_call_load f_call_plan f_call_sum f_answers k_FOUR_STEPS k_CALLS : Addr} {d_Shape_init d_Shape_block_of_home d_Shape_block_of_place d_Head_init d_Transaction_init d_Found_init d_Medium_init d_Medium_wait d_Medium_act d_Medium_put_first_bytes d_Medium_arrive d_Medium_lose d_Known_init d_Operation_init d_Drive_init d_block_count_is_allowed d_shape_is_allowed d_letters d_number_bytes d_sum_of d_head_block d_Drive_make d_Drive_read d_refused d_number_at d_head_in d_counting_head d_homes_are_allowed d_transaction_blocks d_transaction_at d_found_on d_home_writes d_head_write d_mend_operation d_split_blocks d_settle_operation d_known_behind d_commit_operation d_flush_operation d_Drive_operation d_Drive_operate d_Drive_cut d_Drive_cut_in d_Drive_arrive d_Drive_told d_Drive_block d_Drive_look d_Drive_save d_Drive_load d_Drive_plan d_Reader_init d_Reader_is_at_end d_Reader_take d_Reader_take_row d_call_make d_call_read d_call_commit d_call_flush d_call_settle d_call_mend d_call_cut d_call_cut_in d_call_arrive d_call_told d_call_block d_call_look d_call_save d_call_load d_call_plan d_call_sum d_answers : FuncData} (X : K.In h) (G : h.Ns mainGlobals mg) (hfa : mg "answers" = some (.ref fa))
    (h_c_Shape : ClsT K mg "Shape" c_Shape f_Shape_init ["block_count", "place_count", "home_count"])
    (h_c_Head : ClsT K mg "Head" c_Head f_Head_init ["generation", "shape", "number", "place"])
    (h_c_Transaction : ClsT K mg "Transaction" c_Transaction f_Transaction_init ["homes", "blocks"])
    (h_c_Found : ClsT K mg "Found" c_Found f_Found_init ["head", "transactions", "place"])
    (h_c_Medium : ClsT K mg "Medium" c_Medium f_Medium_init ["blocks", "on_way"])
    (h_c_Known : ClsT K mg "Known" c_Known f_Known_init ["head", "number", "place", "taken", "newest"])
    (h_c_Operation : ClsT K mg "Operation" c_Operation f_Operation_init ["answer", "actions", "known"])
    (h_c_Drive : ClsT K mg "Drive" c_Drive f_Drive_init ["medium", "known"])
    (h_c_Reader : ClsT K mg "Reader" c_Reader f_Reader_init ["calls", "at"])
    (h_Shape_init : FunT K "__init__" "Shape.__init__" s_Shape_init ["self", "block_count", "place_count"] f_Shape_init d_Shape_init)
    (h_Shape_block_of_home : MethT K c_Shape "block_of_home" "Shape.block_of_home" s_Shape_block_of_home ["self", "home"] f_Shape_block_of_home d_Shape_block_of_home)
    (h_Shape_block_of_place : MethT K c_Shape "block_of_place" "Shape.block_of_place" s_Shape_block_of_place ["self", "place"] f_Shape_block_of_place d_Shape_block_of_place)
    (h_Head_init : FunT K "__init__" "Head.__init__" s_Head_init ["self", "generation", "shape", "number", "place"] f_Head_init d_Head_init)
    (h_Transaction_init : FunT K "__init__" "Transaction.__init__" s_Transaction_init ["self", "homes", "blocks"] f_Transaction_init d_Transaction_init)
    (h_Found_init : FunT K "__init__" "Found.__init__" s_Found_init ["self", "head", "transactions", "place"] f_Found_init d_Found_init)
    (h_Medium_init : FunT K "__init__" "Medium.__init__" s_Medium_init ["self", "blocks"] f_Medium_init d_Medium_init)
    (h_Medium_wait : MethT K c_Medium "wait" "Medium.wait" s_Medium_wait ["self"] f_Medium_wait d_Medium_wait)
    (h_Medium_act : MethT K c_Medium "act" "Medium.act" s_Medium_act ["self", "action"] f_Medium_act d_Medium_act)
    (h_Medium_put_first_bytes : MethT K c_Medium "put_first_bytes" "Medium.put_first_bytes" s_Medium_put_first_bytes ["self", "write", "size"] f_Medium_put_first_bytes d_Medium_put_first_bytes)
    (h_Medium_arrive : MethT K c_Medium "arrive" "Medium.arrive" s_Medium_arrive ["self", "row"] f_Medium_arrive d_Medium_arrive)
    (h_Medium_lose : MethT K c_Medium "lose" "Medium.lose" s_Medium_lose ["self"] f_Medium_lose d_Medium_lose)
    (h_Known_init : FunT K "__init__" "Known.__init__" s_Known_init ["self", "head"] f_Known_init d_Known_init)
    (h_Operation_init : FunT K "__init__" "Operation.__init__" s_Operation_init ["self", "answer", "actions", "known"] f_Operation_init d_Operation_init)
    (h_Drive_init : FunT K "__init__" "Drive.__init__" s_Drive_init ["self"] f_Drive_init d_Drive_init)
    (h_block_count_is_allowed : DefT K mg "block_count_is_allowed" s_block_count_is_allowed ["block_count"] f_block_count_is_allowed d_block_count_is_allowed)
    (h_shape_is_allowed : DefT K mg "shape_is_allowed" s_shape_is_allowed ["block_count", "place_count"] f_shape_is_allowed d_shape_is_allowed)
    (h_letters : DefT K mg "letters" s_letters ["word"] f_letters d_letters)
    (h_number_bytes : DefT K mg "number_bytes" s_number_bytes ["value", "size"] f_number_bytes d_number_bytes)
    (h_sum_of : DefT K mg "sum_of" s_sum_of ["data"] f_sum_of d_sum_of)
    (h_head_block : DefT K mg "head_block" s_head_block ["head"] f_head_block d_head_block)
    (h_Drive_make : MethT K c_Drive "make" "Drive.make" s_Drive_make ["self", "block_count", "place_count"] f_Drive_make d_Drive_make)
    (h_Drive_read : MethT K c_Drive "read" "Drive.read" s_Drive_read ["self", "home"] f_Drive_read d_Drive_read)
    (h_refused : DefT K mg "refused" s_refused ["answer"] f_refused d_refused)
    (h_number_at : DefT K mg "number_at" s_number_at ["block", "start", "size"] f_number_at d_number_at)
    (h_head_in : DefT K mg "head_in" s_head_in ["blocks", "b"] f_head_in d_head_in)
    (h_counting_head : DefT K mg "counting_head" s_counting_head ["blocks"] f_counting_head d_counting_head)
    (h_homes_are_allowed : DefT K mg "homes_are_allowed" s_homes_are_allowed ["homes", "home_count"] f_homes_are_allowed d_homes_are_allowed)
    (h_transaction_blocks : DefT K mg "transaction_blocks" s_transaction_blocks ["number", "transaction"] f_transaction_blocks d_transaction_blocks)
    (h_transaction_at : DefT K mg "transaction_at" s_transaction_at ["journal", "place", "number", "home_count"] f_transaction_at d_transaction_at)
    (h_found_on : DefT K mg "found_on" s_found_on ["blocks"] f_found_on d_found_on)
    (h_home_writes : DefT K mg "home_writes" s_home_writes ["shape", "newest"] f_home_writes d_home_writes)
    (h_head_write : DefT K mg "head_write" s_head_write ["head"] f_head_write d_head_write)
    (h_mend_operation : DefT K mg "mend_operation" s_mend_operation ["blocks"] f_mend_operation d_mend_operation)
    (h_split_blocks : DefT K mg "split_blocks" s_split_blocks ["data"] f_split_blocks d_split_blocks)
    (h_settle_operation : DefT K mg "settle_operation" s_settle_operation ["known"] f_settle_operation d_settle_operation)
    (h_known_behind : DefT K mg "known_behind" s_known_behind ["known", "transaction"] f_known_behind d_known_behind)
    (h_commit_operation : DefT K mg "commit_operation" s_commit_operation ["known", "homes", "data"] f_commit_operation d_commit_operation)
    (h_flush_operation : DefT K mg "flush_operation" s_flush_operation ["known"] f_flush_operation d_flush_operation)
    (h_Drive_operation : MethT K c_Drive "operation" "Drive.operation" s_Drive_operation ["self", "kind", "homes", "data"] f_Drive_operation d_Drive_operation)
    (h_Drive_operate : MethT K c_Drive "operate" "Drive.operate" s_Drive_operate ["self", "kind", "homes", "data"] f_Drive_operate d_Drive_operate)
    (h_Drive_cut : MethT K c_Drive "cut" "Drive.cut" s_Drive_cut ["self", "row"] f_Drive_cut d_Drive_cut)
    (h_Drive_cut_in : MethT K c_Drive "cut_in" "Drive.cut_in" s_Drive_cut_in ["self", "after", "operation", "row"] f_Drive_cut_in d_Drive_cut_in)
    (h_Drive_arrive : MethT K c_Drive "arrive" "Drive.arrive" s_Drive_arrive ["self", "row"] f_Drive_arrive d_Drive_arrive)
    (h_Drive_told : MethT K c_Drive "told" "Drive.told" s_Drive_told ["self"] f_Drive_told d_Drive_told)
    (h_Drive_block : MethT K c_Drive "block" "Drive.block" s_Drive_block ["self", "b"] f_Drive_block d_Drive_block)
    (h_Drive_look : MethT K c_Drive "look" "Drive.look" s_Drive_look ["self"] f_Drive_look d_Drive_look)
    (h_Drive_save : MethT K c_Drive "save" "Drive.save" s_Drive_save ["self"] f_Drive_save d_Drive_save)
    (h_Drive_load : MethT K c_Drive "load" "Drive.load" s_Drive_load ["self", "data"] f_Drive_load d_Drive_load)
    (h_Drive_plan : MethT K c_Drive "plan" "Drive.plan" s_Drive_plan ["self", "kind", "homes", "data"] f_Drive_plan d_Drive_plan)
    (h_Reader_init : FunT K "__init__" "Reader.__init__" s_Reader_init ["self", "calls"] f_Reader_init d_Reader_init)
    (h_Reader_is_at_end : MethT K c_Reader "is_at_end" "Reader.is_at_end" s_Reader_is_at_end ["self"] f_Reader_is_at_end d_Reader_is_at_end)
    (h_Reader_take : MethT K c_Reader "take" "Reader.take" s_Reader_take ["self"] f_Reader_take d_Reader_take)
    (h_Reader_take_row : MethT K c_Reader "take_row" "Reader.take_row" s_Reader_take_row ["self"] f_Reader_take_row d_Reader_take_row)
    (h_call_make : DefT K mg "call_make" s_call_make ["drive", "reader"] f_call_make d_call_make)
    (h_call_read : DefT K mg "call_read" s_call_read ["drive", "reader"] f_call_read d_call_read)
    (h_call_commit : DefT K mg "call_commit" s_call_commit ["drive", "reader"] f_call_commit d_call_commit)
    (h_call_flush : DefT K mg "call_flush" s_call_flush ["drive", "reader"] f_call_flush d_call_flush)
    (h_call_settle : DefT K mg "call_settle" s_call_settle ["drive", "reader"] f_call_settle d_call_settle)
    (h_call_mend : DefT K mg "call_mend" s_call_mend ["drive", "reader"] f_call_mend d_call_mend)
    (h_call_cut : DefT K mg "call_cut" s_call_cut ["drive", "reader"] f_call_cut d_call_cut)
    (h_call_cut_in : DefT K mg "call_cut_in" s_call_cut_in ["drive", "reader"] f_call_cut_in d_call_cut_in)
    (h_call_arrive : DefT K mg "call_arrive" s_call_arrive ["drive", "reader"] f_call_arrive d_call_arrive)
    (h_call_told : DefT K mg "call_told" s_call_told ["drive", "reader"] f_call_told d_call_told)
    (h_call_block : DefT K mg "call_block" s_call_block ["drive", "reader"] f_call_block d_call_block)
    (h_call_look : DefT K mg "call_look" s_call_look ["drive", "reader"] f_call_look d_call_look)
    (h_call_save : DefT K mg "call_save" s_call_save ["drive", "reader"] f_call_save d_call_save)
    (h_call_load : DefT K mg "call_load" s_call_load ["drive", "reader"] f_call_load d_call_load)
    (h_call_plan : DefT K mg "call_plan" s_call_plan ["drive", "reader"] f_call_plan d_call_plan)
    (h_call_sum : DefT K mg "call_sum" s_call_sum ["drive", "reader"] f_call_sum d_call_sum)
    (h_answers : DefT K mg "answers" s_answers ["calls"] f_answers d_answers)
    (h_k_ALL_ONES : ∃ u, mg "ALL_ONES" = some u ∧ RelV (V.int 4294967295) u)
    (h_k_FOUR_STEPS : ∃ u, mg "FOUR_STEPS" = some u ∧ RelV (V.ref k_FOUR_STEPS) u)
    (h_t_FOUR_STEPS : ∀ H : Hp, SqT K H k_FOUR_STEPS [V.int 0, V.int 274646895, V.int 549293790, V.int 820201905, V.int 1098587580, V.int 1361435347, V.int 1640403810, V.int 1905808397, V.int 2197175160, V.int 2460548119, V.int 2722870694, V.int 2987750089, V.int 3280807620, V.int 3553878443, V.int 3811616794, V.int 4084100981])
    (h_k_BLOCK_SIZE : ∃ u, mg "BLOCK_SIZE" = some u ∧ RelV (V.int 512) u)
    (h_k_HEAD_SUM_AT : ∃ u, mg "HEAD_SUM_AT" = some u ∧ RelV (V.int 500) u)
    (h_k_TAIL_AT : ∃ u, mg "TAIL_AT" = some u ∧ RelV (V.int 504) u)
    (h_k_ENTRIES_AT : ∃ u, mg "ENTRIES_AT" = some u ∧ RelV (V.int 24) u)
    (h_k_ENTRY_SIZE : ∃ u, mg "ENTRY_SIZE" = some u ∧ RelV (V.int 16) u)
    (h_k_MOST_HOMES : ∃ u, mg "MOST_HOMES" = some u ∧ RelV (V.int 30) u)
    (h_k_NUMBER_LIMIT : ∃ u, mg "NUMBER_LIMIT" = some u ∧ RelV (V.int 1152921504606846976) u)
    (h_k_COMMIT : ∃ u, mg "COMMIT" = some u ∧ RelV (V.int 0) u)
    (h_k_FLUSH : ∃ u, mg "FLUSH" = some u ∧ RelV (V.int 1) u)
    (h_k_SETTLE : ∃ u, mg "SETTLE" = some u ∧ RelV (V.int 2) u)
    (h_k_MEND : ∃ u, mg "MEND" = some u ∧ RelV (V.int 3) u)
    (h_k_CALLS : ∃ u, mg "CALLS" = some u ∧ RelV (V.ref k_CALLS) u)
    (h_t_CALLS : ∀ H : Hp, SqT K H k_CALLS [V.ref f_call_make, V.ref f_call_read, V.ref f_call_commit, V.ref f_call_flush, V.ref f_call_settle, V.ref f_call_mend, V.ref f_call_cut, V.ref f_call_cut_in, V.ref f_call_arrive, V.ref f_call_told, V.ref f_call_block, V.ref f_call_look, V.ref f_call_save, V.ref f_call_load, V.ref f_call_plan, V.ref f_call_sum])
    (h_bu : ∀ x ∈ BU, mg x = none)
    : ∃ fd : FuncData, (∀ (s : Shared) (us : List Value), us.length = (["calls"] : List Str).length → BindsTo s fd ⟨us, []⟩ ((["calls"] : List Str).zip us)) ∧ ∀ base : Heap, K.In base → base.Ns mainGlobals mg → FnOk P w K mg base CX0 10 fa fd ["calls"] (spAns K) :=
  fin_mk X G hfa (a := Ad.mk c_Shape c_Head c_Transaction c_Found c_Medium c_Known c_Operation c_Drive c_Reader f_Shape_init d_Shape_init f_Shape_block_of_home d_Shape_block_of_home f_Shape_block_of_place d_Shape_block_of_place f_Head_init d_Head_init f_Transaction_init d_Transaction_init f_Found_init d_Found_init f_Medium_init d_Medium_init f_Medium_wait d_Medium_wait f_Medium_act d_Medium_act f_Medium_put_first_bytes d_Medium_put_first_bytes f_Medium_arrive d_Medium_arrive f_Medium_lose d_Medium_lose f_Known_init d_Known_init f_Operation_init d_Operation_init f_Drive_init d_Drive_init f_block_count_is_allowed d_block_count_is_allowed f_shape_is_allowed d_shape_is_allowed f_letters d_letters f_number_bytes d_number_bytes f_sum_of d_sum_of f_head_block d_head_block f_Drive_make d_Drive_make f_Drive_read d_Drive_read f_refused d_refused f_number_at d_number_at f_head_in d_head_in f_counting_head d_counting_head f_homes_are_allowed d_homes_are_allowed f_transaction_blocks d_transaction_blocks f_transaction_at d_transaction_at f_found_on d_found_on f_home_writes d_home_writes f_head_write d_head_write f_mend_operation d_mend_operation f_split_blocks d_split_blocks f_settle_operation d_settle_operation f_known_behind d_known_behind f_commit_operation d_commit_operation f_flush_operation d_flush_operation f_Drive_operation d_Drive_operation f_Drive_operate d_Drive_operate f_Drive_cut d_Drive_cut f_Drive_cut_in d_Drive_cut_in f_Drive_arrive d_Drive_arrive f_Drive_told d_Drive_told f_Drive_block d_Drive_block f_Drive_look d_Drive_look f_Drive_save d_Drive_save f_Drive_load d_Drive_load f_Drive_plan d_Drive_plan f_Reader_init d_Reader_init f_Reader_is_at_end d_Reader_is_at_end f_Reader_take d_Reader_take f_Reader_take_row d_Reader_take_row f_call_make d_call_make f_call_read d_call_read f_call_commit d_call_commit f_call_flush d_call_flush f_call_settle d_call_settle f_call_mend d_call_mend f_call_cut d_call_cut f_call_cut_in d_call_cut_in f_call_arrive d_call_arrive f_call_told d_call_told f_call_block d_call_block f_call_look d_call_look f_call_save d_call_save f_call_load d_call_load f_call_plan d_call_plan f_call_sum d_call_sum f_answers d_answers k_FOUR_STEPS k_CALLS) (Tx.mk h_c_Shape h_c_Head h_c_Transaction h_c_Found h_c_Medium h_c_Known h_c_Operation h_c_Drive h_c_Reader h_Shape_init h_Shape_block_of_home h_Shape_block_of_place h_Head_init h_Transaction_init h_Found_init h_Medium_init h_Medium_wait h_Medium_act h_Medium_put_first_bytes h_Medium_arrive h_Medium_lose h_Known_init h_Operation_init h_Drive_init h_block_count_is_allowed h_shape_is_allowed h_letters h_number_bytes h_sum_of h_head_block h_Drive_make h_Drive_read h_refused h_number_at h_head_in h_counting_head h_homes_are_allowed h_transaction_blocks h_transaction_at h_found_on h_home_writes h_head_write h_mend_operation h_split_blocks h_settle_operation h_known_behind h_commit_operation h_flush_operation h_Drive_operation h_Drive_operate h_Drive_cut h_Drive_cut_in h_Drive_arrive h_Drive_told h_Drive_block h_Drive_look h_Drive_save h_Drive_load h_Drive_plan h_Reader_init h_Reader_is_at_end h_Reader_take h_Reader_take_row h_call_make h_call_read h_call_commit h_call_flush h_call_settle h_call_mend h_call_cut h_call_cut_in h_call_arrive h_call_told h_call_block h_call_look h_call_save h_call_load h_call_plan h_call_sum h_answers h_k_ALL_ONES h_k_FOUR_STEPS h_t_FOUR_STEPS h_k_BLOCK_SIZE h_k_HEAD_SUM_AT h_k_TAIL_AT h_k_ENTRIES_AT h_k_ENTRY_SIZE h_k_MOST_HOMES h_k_NUMBER_LIMIT h_k_COMMIT h_k_FLUSH h_k_SETTLE h_k_MEND h_k_CALLS h_t_CALLS h_bu)
end Dk
set_option maxHeartbeats 0
open PySem PySem.W PyProof.Rows
theorem wsaid : PySem.Challenge.rw_sparedisk_s01_answers.wellSaid = true := by decide +kernel
theorem PySem.Challenge.cw_sparedisk_s01_answers_holds : PySem.Challenge.rw_sparedisk_s01_answers.Holds := by
  w_on; k_headS; (case hw => exact ⟨[.list [.int 9]], by decide +kernel, by decide +kernel⟩)
  k_fillS
  refine L2.walk_specK (r := PySem.Challenge.rw_sparedisk_s01_answers) (k := 10) (CX := L2.CX0) (ps := ["calls"]) (sp := Dk.spAns) wsaid rfl rfl ⟨rfl, by decide, by decide⟩ (fun w h Y => PySem.W.kIn_of Y) ?F ?S (fun _ _ _ _ z => z)
  case F =>
    intro w mg fa h Y KX G hmg
    refine' Dk.fin_mk2 KX G hmg ?c_Shape ?c_Head ?c_Transaction ?c_Found ?c_Medium ?c_Known ?c_Operation ?c_Drive ?c_Reader ?m_Shape_init ?m_Shape_block_of_home ?m_Shape_block_of_place ?m_Head_init ?m_Transaction_init ?m_Found_init ?m_Medium_init ?m_Medium_wait ?m_Medium_act ?m_Medium_put_first_bytes ?m_Medium_arrive ?m_Medium_lose ?m_Known_init ?m_Operation_init ?m_Drive_init ?m_block_count_is_allowed ?m_shape_is_allowed ?m_letters ?m_number_bytes ?m_sum_of ?m_head_block ?m_Drive_make ?m_Drive_read ?m_refused ?m_number_at ?m_head_in ?m_counting_head ?m_homes_are_allowed ?m_transaction_blocks ?m_transaction_at ?m_found_on ?m_home_writes ?m_head_write ?m_mend_operation ?m_split_blocks ?m_settle_operation ?m_known_behind ?m_commit_operation ?m_flush_operation ?m_Drive_operation ?m_Drive_operate ?m_Drive_cut ?m_Drive_cut_in ?m_Drive_arrive ?m_Drive_told ?m_Drive_block ?m_Drive_look ?m_Drive_save ?m_Drive_load ?m_Drive_plan ?m_Reader_init ?m_Reader_is_at_end ?m_Reader_take ?m_Reader_take_row ?m_call_make ?m_call_read ?m_call_commit ?m_call_flush ?m_call_settle ?m_call_mend ?m_call_cut ?m_call_cut_in ?m_call_arrive ?m_call_told ?m_call_block ?m_call_look ?m_call_save ?m_call_load ?m_call_plan ?m_call_sum ?m_answers ?k_ALL_ONES ?k_FOUR_STEPS ?t_FOUR_STEPS ?k_BLOCK_SIZE ?k_HEAD_SUM_AT ?k_TAIL_AT ?k_ENTRIES_AT ?k_ENTRY_SIZE ?k_MOST_HOMES ?k_NUMBER_LIMIT ?k_COMMIT ?k_FLUSH ?k_SETTLE ?k_MEND ?k_CALLS ?t_CALLS ?bu
    (case c_Shape => refine' Dk.clsT_mk KX G ?n ?pg ?hd ?po ?sa ?mk ?ini ?fn ?kc (Dk.cons_all ?na0 (Dk.cons_all ?na1 (Dk.cons_all ?na2 (Dk.nil_all)))); (case n => k_is); (case pg => k_is); (case hd => k_is); (case po => k_is); (case sa => k_is); (case mk => k_is); (case ini => k_is); (case fn => k_is); (case kc => k_is); (case na0 => show PySem.W.findIn _ (PySem.Value.ref _) _ = some none; k_is); (case na1 => show PySem.W.findIn _ (PySem.Value.ref _) _ = some none; k_is); (case na2 => show PySem.W.findIn _ (PySem.Value.ref _) _ = some none; k_is))
    (case c_Head => refine' Dk.clsT_mk KX G ?n ?pg ?hd ?po ?sa ?mk ?ini ?fn ?kc (Dk.cons_all ?na0 (Dk.cons_all ?na1 (Dk.cons_all ?na2 (Dk.cons_all ?na3 (Dk.nil_all))))); (case n => k_is); (case pg => k_is); (case hd => k_is); (case po => k_is); (case sa => k_is); (case mk => k_is); (case ini => k_is); (case fn => k_is); (case kc => k_is); (case na0 => show PySem.W.findIn _ (PySem.Value.ref _) _ = some none; k_is); (case na1 => show PySem.W.findIn _ (PySem.Value.ref _) _ = some none; k_is); (case na2 => show PySem.W.findIn _ (PySem.Value.ref _) _ = some none; k_is); (case na3 => show PySem.W.findIn _ (PySem.Value.ref _) _ = some none; k_is))
    (case c_Transaction => refine' Dk.clsT_mk KX G ?n ?pg ?hd ?po ?sa ?mk ?ini ?fn ?kc (Dk.cons_all ?na0 (Dk.cons_all ?na1 (Dk.nil_all))); (case n => k_is); (case pg => k_is); (case hd => k_is); (case po => k_is); (case sa => k_is); (case mk => k_is); (case ini => k_is); (case fn => k_is); (case kc => k_is); (case na0 => show PySem.W.findIn _ (PySem.Value.ref _) _ = some none; k_is); (case na1 => show PySem.W.findIn _ (PySem.Value.ref _) _ = some none; k_is))
    (case c_Found => refine' Dk.clsT_mk KX G ?n ?pg ?hd ?po ?sa ?mk ?ini ?fn ?kc (Dk.cons_all ?na0 (Dk.cons_all ?na1 (Dk.cons_all ?na2 (Dk.nil_all)))); (case n => k_is); (case pg => k_is); (case hd => k_is); (case po => k_is); (case sa => k_is); (case mk => k_is); (case ini => k_is); (case fn => k_is); (case kc => k_is); (case na0 => show PySem.W.findIn _ (PySem.Value.ref _) _ = some none; k_is); (case na1 => show PySem.W.findIn _ (PySem.Value.ref _) _ = some none; k_is); (case na2 => show PySem.W.findIn _ (PySem.Value.ref _) _ = some none; k_is))
    (case c_Medium => refine' Dk.clsT_mk KX G ?n ?pg ?hd ?po ?sa ?mk ?ini ?fn ?kc (Dk.cons_all ?na0 (Dk.cons_all ?na1 (Dk.nil_all))); (case n => k_is); (case pg => k_is); (case hd => k_is); (case po => k_is); (case sa => k_is); (case mk => k_is); (case ini => k_is); (case fn => k_is); (case kc => k_is); (case na0 => show PySem.W.findIn _ (PySem.Value.ref _) _ = some none; k_is); (case na1 => show PySem.W.findIn _ (PySem.Value.ref _) _ = some none; k_is))
    (case c_Known => refine' Dk.clsT_mk KX G ?n ?pg ?hd ?po ?sa ?mk ?ini ?fn ?kc (Dk.cons_all ?na0 (Dk.cons_all ?na1 (Dk.cons_all ?na2 (Dk.cons_all ?na3 (Dk.cons_all ?na4 (Dk.nil_all)))))); (case n => k_is); (case pg => k_is); (case hd => k_is); (case po => k_is); (case sa => k_is); (case mk => k_is); (case ini => k_is); (case fn => k_is); (case kc => k_is); (case na0 => show PySem.W.findIn _ (PySem.Value.ref _) _ = some none; k_is); (case na1 => show PySem.W.findIn _ (PySem.Value.ref _) _ = some none; k_is); (case na2 => show PySem.W.findIn _ (PySem.Value.ref _) _ = some none; k_is); (case na3 => show PySem.W.findIn _ (PySem.Value.ref _) _ = some none; k_is); (case na4 => show PySem.W.findIn _ (PySem.Value.ref _) _ = some none; k_is))
    (case c_Operation => refine' Dk.clsT_mk KX G ?n ?pg ?hd ?po ?sa ?mk ?ini ?fn ?kc (Dk.cons_all ?na0 (Dk.cons_all ?na1 (Dk.cons_all ?na2 (Dk.nil_all)))); (case n => k_is); (case pg => k_is); (case hd => k_is); (case po => k_is); (case sa => k_is); (case mk => k_is); (case ini => k_is); (case fn => k_is); (case kc => k_is); (case na0 => show PySem.W.findIn _ (PySem.Value.ref _) _ = some none; k_is); (case na1 => show PySem.W.findIn _ (PySem.Value.ref _) _ = some none; k_is); (case na2 => show PySem.W.findIn _ (PySem.Value.ref _) _ = some none; k_is))
    (case c_Drive => refine' Dk.clsT_mk KX G ?n ?pg ?hd ?po ?sa ?mk ?ini ?fn ?kc (Dk.cons_all ?na0 (Dk.cons_all ?na1 (Dk.nil_all))); (case n => k_is); (case pg => k_is); (case hd => k_is); (case po => k_is); (case sa => k_is); (case mk => k_is); (case ini => k_is); (case fn => k_is); (case kc => k_is); (case na0 => show PySem.W.findIn _ (PySem.Value.ref _) _ = some none; k_is); (case na1 => show PySem.W.findIn _ (PySem.Value.ref _) _ = some none; k_is))
    (case c_Reader => refine' Dk.clsT_mk KX G ?n ?pg ?hd ?po ?sa ?mk ?ini ?fn ?kc (Dk.cons_all ?na0 (Dk.cons_all ?na1 (Dk.nil_all))); (case n => k_is); (case pg => k_is); (case hd => k_is); (case po => k_is); (case sa => k_is); (case mk => k_is); (case ini => k_is); (case fn => k_is); (case kc => k_is); (case na0 => show PySem.W.findIn _ (PySem.Value.ref _) _ = some none; k_is); (case na1 => show PySem.W.findIn _ (PySem.Value.ref _) _ = some none; k_is))
    (case m_Shape_init => refine' Dk.funT_mk (fun _ _ _ _ _ _ us hl => match us, hl with | [_, _, _], _ => rfl) ?l ?c ?k; (case l => k_is); (case c => k_is); (case k => k_is))
    (case m_Shape_block_of_home => refine' Dk.methT_mk (fun _ _ _ _ _ _ us hl => match us, hl with | [_, _], _ => rfl) ?n ?i ?l ?c ?k; (case n => k_is); (case i => k_is); (case l => k_is); (case c => k_is); (case k => k_is))
    (case m_Shape_block_of_place => refine' Dk.methT_mk (fun _ _ _ _ _ _ us hl => match us, hl with | [_, _], _ => rfl) ?n ?i ?l ?c ?k; (case n => k_is); (case i => k_is); (case l => k_is); (case c => k_is); (case k => k_is))
    (case m_Head_init => refine' Dk.funT_mk (fun _ _ _ _ _ _ us hl => match us, hl with | [_, _, _, _, _], _ => rfl) ?l ?c ?k; (case l => k_is); (case c => k_is); (case k => k_is))
    (case m_Transaction_init => refine' Dk.funT_mk (fun _ _ _ _ _ _ us hl => match us, hl with | [_, _, _], _ => rfl) ?l ?c ?k; (case l => k_is); (case c => k_is); (case k => k_is))
    (case m_Found_init => refine' Dk.funT_mk (fun _ _ _ _ _ _ us hl => match us, hl with | [_, _, _, _], _ => rfl) ?l ?c ?k; (case l => k_is); (case c => k_is); (case k => k_is))
    (case m_Medium_init => refine' Dk.funT_mk (fun _ _ _ _ _ _ us hl => match us, hl with | [_, _], _ => rfl) ?l ?c ?k; (case l => k_is); (case c => k_is); (case k => k_is))
    (case m_Medium_wait => refine' Dk.methT_mk (fun _ _ _ _ _ _ us hl => match us, hl with | [_], _ => rfl) ?n ?i ?l ?c ?k; (case n => k_is); (case i => k_is); (case l => k_is); (case c => k_is); (case k => k_is))
    (case m_Medium_act => refine' Dk.methT_mk (fun _ _ _ _ _ _ us hl => match us, hl with | [_, _], _ => rfl) ?n ?i ?l ?c ?k; (case n => k_is); (case i => k_is); (case l => k_is); (case c => k_is); (case k => k_is))
    (case m_Medium_put_first_bytes => refine' Dk.methT_mk (fun _ _ _ _ _ _ us hl => match us, hl with | [_, _, _], _ => rfl) ?n ?i ?l ?c ?k; (case n => k_is); (case i => k_is); (case l => k_is); (case c => k_is); (case k => k_is))
    (case m_Medium_arrive => refine' Dk.methT_mk (fun _ _ _ _ _ _ us hl => match us, hl with | [_, _], _ => rfl) ?n ?i ?l ?c ?k; (case n => k_is); (case i => k_is); (case l => k_is); (case c => k_is); (case k => k_is))
    (case m_Medium_lose => refine' Dk.methT_mk (fun _ _ _ _ _ _ us hl => match us, hl with | [_], _ => rfl) ?n ?i ?l ?c ?k; (case n => k_is); (case i => k_is); (case l => k_is); (case c => k_is); (case k => k_is))
    (case m_Known_init => refine' Dk.funT_mk (fun _ _ _ _ _ _ us hl => match us, hl with | [_, _], _ => rfl) ?l ?c ?k; (case l => k_is); (case c => k_is); (case k => k_is))
    (case m_Operation_init => refine' Dk.funT_mk (fun _ _ _ _ _ _ us hl => match us, hl with | [_, _, _, _], _ => rfl) ?l ?c ?k; (case l => k_is); (case c => k_is); (case k => k_is))
    (case m_Drive_init => refine' Dk.funT_mk (fun _ _ _ _ _ _ us hl => match us, hl with | [_], _ => rfl) ?l ?c ?k; (case l => k_is); (case c => k_is); (case k => k_is))
    (case m_block_count_is_allowed => refine' Dk.defT_mk KX G (fun _ _ _ _ _ _ us hl => match us, hl with | [_], _ => rfl) ?n ?l ?c ?k; (case n => k_is); (case l => k_is); (case c => k_is); (case k => k_is))
    (case m_shape_is_allowed => refine' Dk.defT_mk KX G (fun _ _ _ _ _ _ us hl => match us, hl with | [_, _], _ => rfl) ?n ?l ?c ?k; (case n => k_is); (case l => k_is); (case c => k_is); (case k => k_is))
    (case m_letters => refine' Dk.defT_mk KX G (fun _ _ _ _ _ _ us hl => match us, hl with | [_], _ => rfl) ?n ?l ?c ?k; (case n => k_is); (case l => k_is); (case c => k_is); (case k => k_is))
    (case m_number_bytes => refine' Dk.defT_mk KX G (fun _ _ _ _ _ _ us hl => match us, hl with | [_, _], _ => rfl) ?n ?l ?c ?k; (case n => k_is); (case l => k_is); (case c => k_is); (case k => k_is))
    (case m_sum_of => refine' Dk.defT_mk KX G (fun _ _ _ _ _ _ us hl => match us, hl with | [_], _ => rfl) ?n ?l ?c ?k; (case n => k_is); (case l => k_is); (case c => k_is); (case k => k_is))
    (case m_head_block => refine' Dk.defT_mk KX G (fun _ _ _ _ _ _ us hl => match us, hl with | [_], _ => rfl) ?n ?l ?c ?k; (case n => k_is); (case l => k_is); (case c => k_is); (case k => k_is))
    (case m_Drive_make => refine' Dk.methT_mk (fun _ _ _ _ _ _ us hl => match us, hl with | [_, _, _], _ => rfl) ?n ?i ?l ?c ?k; (case n => k_is); (case i => k_is); (case l => k_is); (case c => k_is); (case k => k_is))
    (case m_Drive_read => refine' Dk.methT_mk (fun _ _ _ _ _ _ us hl => match us, hl with | [_, _], _ => rfl) ?n ?i ?l ?c ?k; (case n => k_is); (case i => k_is); (case l => k_is); (case c => k_is); (case k => k_is))
    (case m_refused => refine' Dk.defT_mk KX G (fun _ _ _ _ _ _ us hl => match us, hl with | [_], _ => rfl) ?n ?l ?c ?k; (case n => k_is); (case l => k_is); (case c => k_is); (case k => k_is))
    (case m_number_at => refine' Dk.defT_mk KX G (fun _ _ _ _ _ _ us hl => match us, hl with | [_, _, _], _ => rfl) ?n ?l ?c ?k; (case n => k_is); (case l => k_is); (case c => k_is); (case k => k_is))
    (case m_head_in => refine' Dk.defT_mk KX G (fun _ _ _ _ _ _ us hl => match us, hl with | [_, _], _ => rfl) ?n ?l ?c ?k; (case n => k_is); (case l => k_is); (case c => k_is); (case k => k_is))
    (case m_counting_head => refine' Dk.defT_mk KX G (fun _ _ _ _ _ _ us hl => match us, hl with | [_], _ => rfl) ?n ?l ?c ?k; (case n => k_is); (case l => k_is); (case c => k_is); (case k => k_is))
    (case m_homes_are_allowed => refine' Dk.defT_mk KX G (fun _ _ _ _ _ _ us hl => match us, hl with | [_, _], _ => rfl) ?n ?l ?c ?k; (case n => k_is); (case l => k_is); (case c => k_is); (case k => k_is))
    (case m_transaction_blocks => refine' Dk.defT_mk KX G (fun _ _ _ _ _ _ us hl => match us, hl with | [_, _], _ => rfl) ?n ?l ?c ?k; (case n => k_is); (case l => k_is); (case c => k_is); (case k => k_is))
    (case m_transaction_at => refine' Dk.defT_mk KX G (fun _ _ _ _ _ _ us hl => match us, hl with | [_, _, _, _], _ => rfl) ?n ?l ?c ?k; (case n => k_is); (case l => k_is); (case c => k_is); (case k => k_is))
    (case m_found_on => refine' Dk.defT_mk KX G (fun _ _ _ _ _ _ us hl => match us, hl with | [_], _ => rfl) ?n ?l ?c ?k; (case n => k_is); (case l => k_is); (case c => k_is); (case k => k_is))
    (case m_home_writes => refine' Dk.defT_mk KX G (fun _ _ _ _ _ _ us hl => match us, hl with | [_, _], _ => rfl) ?n ?l ?c ?k; (case n => k_is); (case l => k_is); (case c => k_is); (case k => k_is))
    (case m_head_write => refine' Dk.defT_mk KX G (fun _ _ _ _ _ _ us hl => match us, hl with | [_], _ => rfl) ?n ?l ?c ?k; (case n => k_is); (case l => k_is); (case c => k_is); (case k => k_is))
    (case m_mend_operation => refine' Dk.defT_mk KX G (fun _ _ _ _ _ _ us hl => match us, hl with | [_], _ => rfl) ?n ?l ?c ?k; (case n => k_is); (case l => k_is); (case c => k_is); (case k => k_is))
    (case m_split_blocks => refine' Dk.defT_mk KX G (fun _ _ _ _ _ _ us hl => match us, hl with | [_], _ => rfl) ?n ?l ?c ?k; (case n => k_is); (case l => k_is); (case c => k_is); (case k => k_is))
    (case m_settle_operation => refine' Dk.defT_mk KX G (fun _ _ _ _ _ _ us hl => match us, hl with | [_], _ => rfl) ?n ?l ?c ?k; (case n => k_is); (case l => k_is); (case c => k_is); (case k => k_is))
    (case m_known_behind => refine' Dk.defT_mk KX G (fun _ _ _ _ _ _ us hl => match us, hl with | [_, _], _ => rfl) ?n ?l ?c ?k; (case n => k_is); (case l => k_is); (case c => k_is); (case k => k_is))
    (case m_commit_operation => refine' Dk.defT_mk KX G (fun _ _ _ _ _ _ us hl => match us, hl with | [_, _, _], _ => rfl) ?n ?l ?c ?k; (case n => k_is); (case l => k_is); (case c => k_is); (case k => k_is))
    (case m_flush_operation => refine' Dk.defT_mk KX G (fun _ _ _ _ _ _ us hl => match us, hl with | [_], _ => rfl) ?n ?l ?c ?k; (case n => k_is); (case l => k_is); (case c => k_is); (case k => k_is))
    (case m_Drive_operation => refine' Dk.methT_mk (fun _ _ _ _ _ _ us hl => match us, hl with | [_, _, _, _], _ => rfl) ?n ?i ?l ?c ?k; (case n => k_is); (case i => k_is); (case l => k_is); (case c => k_is); (case k => k_is))
    (case m_Drive_operate => refine' Dk.methT_mk (fun _ _ _ _ _ _ us hl => match us, hl with | [_, _, _, _], _ => rfl) ?n ?i ?l ?c ?k; (case n => k_is); (case i => k_is); (case l => k_is); (case c => k_is); (case k => k_is))
    (case m_Drive_cut => refine' Dk.methT_mk (fun _ _ _ _ _ _ us hl => match us, hl with | [_, _], _ => rfl) ?n ?i ?l ?c ?k; (case n => k_is); (case i => k_is); (case l => k_is); (case c => k_is); (case k => k_is))
    (case m_Drive_cut_in => refine' Dk.methT_mk (fun _ _ _ _ _ _ us hl => match us, hl with | [_, _, _, _], _ => rfl) ?n ?i ?l ?c ?k; (case n => k_is); (case i => k_is); (case l => k_is); (case c => k_is); (case k => k_is))
    (case m_Drive_arrive => refine' Dk.methT_mk (fun _ _ _ _ _ _ us hl => match us, hl with | [_, _], _ => rfl) ?n ?i ?l ?c ?k; (case n => k_is); (case i => k_is); (case l => k_is); (case c => k_is); (case k => k_is))
    (case m_Drive_told => refine' Dk.methT_mk (fun _ _ _ _ _ _ us hl => match us, hl with | [_], _ => rfl) ?n ?i ?l ?c ?k; (case n => k_is); (case i => k_is); (case l => k_is); (case c => k_is); (case k => k_is))
    (case m_Drive_block => refine' Dk.methT_mk (fun _ _ _ _ _ _ us hl => match us, hl with | [_, _], _ => rfl) ?n ?i ?l ?c ?k; (case n => k_is); (case i => k_is); (case l => k_is); (case c => k_is); (case k => k_is))
    (case m_Drive_look => refine' Dk.methT_mk (fun _ _ _ _ _ _ us hl => match us, hl with | [_], _ => rfl) ?n ?i ?l ?c ?k; (case n => k_is); (case i => k_is); (case l => k_is); (case c => k_is); (case k => k_is))
    (case m_Drive_save => refine' Dk.methT_mk (fun _ _ _ _ _ _ us hl => match us, hl with | [_], _ => rfl) ?n ?i ?l ?c ?k; (case n => k_is); (case i => k_is); (case l => k_is); (case c => k_is); (case k => k_is))
    (case m_Drive_load => refine' Dk.methT_mk (fun _ _ _ _ _ _ us hl => match us, hl with | [_, _], _ => rfl) ?n ?i ?l ?c ?k; (case n => k_is); (case i => k_is); (case l => k_is); (case c => k_is); (case k => k_is))
    (case m_Drive_plan => refine' Dk.methT_mk (fun _ _ _ _ _ _ us hl => match us, hl with | [_, _, _, _], _ => rfl) ?n ?i ?l ?c ?k; (case n => k_is); (case i => k_is); (case l => k_is); (case c => k_is); (case k => k_is))
    (case m_Reader_init => refine' Dk.funT_mk (fun _ _ _ _ _ _ us hl => match us, hl with | [_, _], _ => rfl) ?l ?c ?k; (case l => k_is); (case c => k_is); (case k => k_is))
    (case m_Reader_is_at_end => refine' Dk.methT_mk (fun _ _ _ _ _ _ us hl => match us, hl with | [_], _ => rfl) ?n ?i ?l ?c ?k; (case n => k_is); (case i => k_is); (case l => k_is); (case c => k_is); (case k => k_is))
    (case m_Reader_take => refine' Dk.methT_mk (fun _ _ _ _ _ _ us hl => match us, hl with | [_], _ => rfl) ?n ?i ?l ?c ?k; (case n => k_is); (case i => k_is); (case l => k_is); (case c => k_is); (case k => k_is))
    (case m_Reader_take_row => refine' Dk.methT_mk (fun _ _ _ _ _ _ us hl => match us, hl with | [_], _ => rfl) ?n ?i ?l ?c ?k; (case n => k_is); (case i => k_is); (case l => k_is); (case c => k_is); (case k => k_is))
    (case m_call_make => refine' Dk.defT_mk KX G (fun _ _ _ _ _ _ us hl => match us, hl with | [_, _], _ => rfl) ?n ?l ?c ?k; (case n => k_is); (case l => k_is); (case c => k_is); (case k => k_is))
    (case m_call_read => refine' Dk.defT_mk KX G (fun _ _ _ _ _ _ us hl => match us, hl with | [_, _], _ => rfl) ?n ?l ?c ?k; (case n => k_is); (case l => k_is); (case c => k_is); (case k => k_is))
    (case m_call_commit => refine' Dk.defT_mk KX G (fun _ _ _ _ _ _ us hl => match us, hl with | [_, _], _ => rfl) ?n ?l ?c ?k; (case n => k_is); (case l => k_is); (case c => k_is); (case k => k_is))
    (case m_call_flush => refine' Dk.defT_mk KX G (fun _ _ _ _ _ _ us hl => match us, hl with | [_, _], _ => rfl) ?n ?l ?c ?k; (case n => k_is); (case l => k_is); (case c => k_is); (case k => k_is))
    (case m_call_settle => refine' Dk.defT_mk KX G (fun _ _ _ _ _ _ us hl => match us, hl with | [_, _], _ => rfl) ?n ?l ?c ?k; (case n => k_is); (case l => k_is); (case c => k_is); (case k => k_is))
    (case m_call_mend => refine' Dk.defT_mk KX G (fun _ _ _ _ _ _ us hl => match us, hl with | [_, _], _ => rfl) ?n ?l ?c ?k; (case n => k_is); (case l => k_is); (case c => k_is); (case k => k_is))
    (case m_call_cut => refine' Dk.defT_mk KX G (fun _ _ _ _ _ _ us hl => match us, hl with | [_, _], _ => rfl) ?n ?l ?c ?k; (case n => k_is); (case l => k_is); (case c => k_is); (case k => k_is))
    (case m_call_cut_in => refine' Dk.defT_mk KX G (fun _ _ _ _ _ _ us hl => match us, hl with | [_, _], _ => rfl) ?n ?l ?c ?k; (case n => k_is); (case l => k_is); (case c => k_is); (case k => k_is))
    (case m_call_arrive => refine' Dk.defT_mk KX G (fun _ _ _ _ _ _ us hl => match us, hl with | [_, _], _ => rfl) ?n ?l ?c ?k; (case n => k_is); (case l => k_is); (case c => k_is); (case k => k_is))
    (case m_call_told => refine' Dk.defT_mk KX G (fun _ _ _ _ _ _ us hl => match us, hl with | [_, _], _ => rfl) ?n ?l ?c ?k; (case n => k_is); (case l => k_is); (case c => k_is); (case k => k_is))
    (case m_call_block => refine' Dk.defT_mk KX G (fun _ _ _ _ _ _ us hl => match us, hl with | [_, _], _ => rfl) ?n ?l ?c ?k; (case n => k_is); (case l => k_is); (case c => k_is); (case k => k_is))
    (case m_call_look => refine' Dk.defT_mk KX G (fun _ _ _ _ _ _ us hl => match us, hl with | [_, _], _ => rfl) ?n ?l ?c ?k; (case n => k_is); (case l => k_is); (case c => k_is); (case k => k_is))
    (case m_call_save => refine' Dk.defT_mk KX G (fun _ _ _ _ _ _ us hl => match us, hl with | [_, _], _ => rfl) ?n ?l ?c ?k; (case n => k_is); (case l => k_is); (case c => k_is); (case k => k_is))
    (case m_call_load => refine' Dk.defT_mk KX G (fun _ _ _ _ _ _ us hl => match us, hl with | [_, _], _ => rfl) ?n ?l ?c ?k; (case n => k_is); (case l => k_is); (case c => k_is); (case k => k_is))
    (case m_call_plan => refine' Dk.defT_mk KX G (fun _ _ _ _ _ _ us hl => match us, hl with | [_, _], _ => rfl) ?n ?l ?c ?k; (case n => k_is); (case l => k_is); (case c => k_is); (case k => k_is))
    (case m_call_sum => refine' Dk.defT_mk KX G (fun _ _ _ _ _ _ us hl => match us, hl with | [_, _], _ => rfl) ?n ?l ?c ?k; (case n => k_is); (case l => k_is); (case c => k_is); (case k => k_is))
    (case m_answers => refine' Dk.defT_mk KX G (fun _ _ _ _ _ _ us hl => match us, hl with | [_], _ => rfl) ?n ?l ?c ?k; (case n => k_is); (case l => k_is); (case c => k_is); (case k => k_is))
    (case k_ALL_ONES => refine' Dk.const_mk KX G ?n; (case n => k_is))
    (case k_FOUR_STEPS => refine' Dk.constR_mk KX G ?n; (case n => k_is))
    (case t_FOUR_STEPS => refine' Dk.tup_mk ?l ?z ?r; (case l => k_is); (case z => decide); (case r => exact .cons ⟨_, rfl⟩ (.cons ⟨_, rfl⟩ (.cons ⟨_, rfl⟩ (.cons ⟨_, rfl⟩ (.cons ⟨_, rfl⟩ (.cons ⟨_, rfl⟩ (.cons ⟨_, rfl⟩ (.cons ⟨_, rfl⟩ (.cons ⟨_, rfl⟩ (.cons ⟨_, rfl⟩ (.cons ⟨_, rfl⟩ (.cons ⟨_, rfl⟩ (.cons ⟨_, rfl⟩ (.cons ⟨_, rfl⟩ (.cons ⟨_, rfl⟩ (.cons ⟨_, rfl⟩ (.nil))))))))))))))))))
    (case k_BLOCK_SIZE => refine' Dk.const_mk KX G ?n; (case n => k_is))
    (case k_HEAD_SUM_AT => refine' Dk.const_mk KX G ?n; (case n => k_is))
    (case k_TAIL_AT => refine' Dk.const_mk KX G ?n; (case n => k_is))
    (case k_ENTRIES_AT => refine' Dk.const_mk KX G ?n; (case n => k_is))
    (case k_ENTRY_SIZE => refine' Dk.const_mk KX G ?n; (case n => k_is))
    (case k_MOST_HOMES => refine' Dk.const_mk KX G ?n; (case n => k_is))
    (case k_NUMBER_LIMIT => refine' Dk.const_mk KX G ?n; (case n => k_is))
    (case k_COMMIT => refine' Dk.const_mk KX G ?n; (case n => k_is))
    (case k_FLUSH => refine' Dk.const_mk KX G ?n; (case n => k_is))
    (case k_SETTLE => refine' Dk.const_mk KX G ?n; (case n => k_is))
    (case k_MEND => refine' Dk.const_mk KX G ?n; (case n => k_is))
    (case k_CALLS => refine' Dk.constR_mk KX G ?n; (case n => k_is))
    (case t_CALLS => refine' Dk.tup_mk ?l ?z ?r; (case l => k_is); (case z => decide); (case r => exact .cons rfl (.cons rfl (.cons rfl (.cons rfl (.cons rfl (.cons rfl (.cons rfl (.cons rfl (.cons rfl (.cons rfl (.cons rfl (.cons rfl (.cons rfl (.cons rfl (.cons rfl (.cons rfl (.nil))))))))))))))))))
    (case bu => refine' Dk.cons_all ?b0 (Dk.cons_all ?b1 (Dk.cons_all ?b2 (Dk.cons_all ?b3 (Dk.cons_all ?b4 (Dk.cons_all ?b5 (Dk.cons_all ?b6 (Dk.cons_all ?b7 (Dk.cons_all ?b8 (Dk.cons_all ?b9 (Dk.cons_all ?b10 (Dk.nil_all))))))))))); (case b0 => exact PySem.W.mg_none_of KX G (by k_is)); (case b1 => exact PySem.W.mg_none_of KX G (by k_is)); (case b2 => exact PySem.W.mg_none_of KX G (by k_is)); (case b3 => exact PySem.W.mg_none_of KX G (by k_is)); (case b4 => exact PySem.W.mg_none_of KX G (by k_is)); (case b5 => exact PySem.W.mg_none_of KX G (by k_is)); (case b6 => exact PySem.W.mg_none_of KX G (by k_is)); (case b7 => exact PySem.W.mg_none_of KX G (by k_is)); (case b8 => exact PySem.W.mg_none_of KX G (by k_is)); (case b9 => exact PySem.W.mg_none_of KX G (by k_is)); (case b10 => exact PySem.W.mg_none_of KX G (by k_is)))
  case S => exact Dk.caseS
