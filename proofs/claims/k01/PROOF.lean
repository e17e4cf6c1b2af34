import PyProof.Rows.All
import Wide.All
import OpenK.AllK
import Wide.FinOn
import HandS.ForMost
import HandS.IsInst
import HandS.Style
import HandS.TupAny
import HandS.TupMul
import HandS.Conv
import HandS.Defaults
import HandS.Wide
import HandS.Codes
import KE.KRevSl
import PySem.Challenge.RW_parlourday_k01_what_is_a_web
set_option Elab.async false
set_option linter.all false
set_option maxRecDepth 100000
set_option maxHeartbeats 4000000
namespace K01
open PySem PySem.Spec PyProof.Rows L2
/-! ### a call with keywords alone -/
section
variable {X : Cx} {CX : CXT} {k : Nat} {f : Addr} {fd : FuncData} {ps ks : List Str} {sp : Sp} {E : XK} {x : Str} {p pos : Pos} {kws : List Keyword} {tk : TA} {g : List Value → List Value → List Value} {gV : List V → List V → List V}
theorem pe_callN0 (F : FnOk X.prog X.w X.K X.mg X.base CX k f fd ps sp) (hr : Room k X.A) (hg : Gl X x) (hm : X.mg x = some (.ref f)) (hk : PySem.W.keepIn X.K (.ref f) = true) (hb : KBn X.K fd ps 0 ks g gV) (hx : Passes CX X E)
    (hkw : PK X kws tk) (hall : (backToKw pos (keywordEach kws X.env)).all (·.1.isSome) = true := by rfl) (hks : (backToKw pos (keywordEach kws X.env)).filterMap (·.1) = ks := by rfl)
    (hdb : (x == ("__debug__" : Str)) = false := by decide)
    (hpl : ((backTo pos (starEach [] X.env)).any (·.1) || (backToKw pos (keywordEach kws X.env)).any (·.1.isNone)) = false := by rfl) :
    PE X (.Call (.Name x p) [] kws pos) (tCallN 0 ks.length sp gV E tNil tk) := by
  refine ⟨fun pins s σ H Q I h => ?_⟩
  refine wpAny_Call_Name_kw (ld_glob I hg hm ?_ hdb)
  refine PySem.W.callWith_KW0 (h₀ := X.base) I.ok.mod.kin hk hall ?_ hpl
  refine thn (hkw.run pos pins s σ H _ I h) fun ws s2 ⟨zs, H2, I2, rz, l1, l2, q2⟩ => ⟨I2.kIn, ?_⟩
  rw [hks]
  exact run_fnN F hr hb hx I2 .nil rz rfl l2 q2
end
theorem bt_len : bootBuiltins "len" = some (.builtin "len") := by decide +kernel
theorem bt_isinstance : bootBuiltins "isinstance" = some (.builtin "isinstance") := by decide +kernel
theorem bt_abs : bootBuiltins "abs" = some (.builtin "abs") := by decide +kernel
theorem bt_all : bootBuiltins "all" = some (.builtin "all") := by decide +kernel
theorem bt_max : bootBuiltins "max" = some (.builtin "max") := by decide +kernel
theorem bt_min : bootBuiltins "min" = some (.builtin "min") := by decide +kernel
theorem bt_any : bootBuiltins "any" = some (.builtin "any") := by decide +kernel
theorem bt_int : bootBuiltins "int" = some (.type "int") := by decide +kernel
theorem bt_bool : bootBuiltins "bool" = some (.type "bool") := by decide +kernel
theorem bt_tuple : bootBuiltins "tuple" = some (.type "tuple") := by decide +kernel
theorem bt_list : bootBuiltins "list" = some (.type "list") := by decide +kernel
theorem bt_str : bootBuiltins "str" = some (.type "str") := by decide +kernel
theorem bt_dict : bootBuiltins "dict" = some (.type "dict") := by decide +kernel
/-! ### a def that stands -/
structure DefAt (K : PySem.W.Frag) (mg : Str → Option Value) (x : Str) (st : Stmt) (ps : List Str) (f : Addr) (fd : FuncData) : Prop where
  F : Fun K x x st f fd
  g : mg x = some (.ref f)
  b : Binds K fd ps []
/-! ### the text -/
def topS (i : Nat) : Stmt := PySem.Challenge.pw_parlourday_k01_what_is_a_web.main.body.getD i (.Pass ⟨0, 0, 0, 0⟩)
abbrev s_is_whole : Stmt := topS 1
abbrev N_is_whole : List Str := ["thing"]
theorem sc_is_whole : FnScope ["thing"] ["thing"] (defScope s_is_whole) := ⟨rfl, rfl, rfl, by decide +kernel, rfl, by decide +kernel, by decide +kernel⟩
abbrev s_is_whole_in : Stmt := topS 2
abbrev N_is_whole_in : List Str := ["thing", "low", "high"]
theorem sc_is_whole_in : FnScope ["thing", "low", "high"] ["thing", "low", "high"] (defScope s_is_whole_in) := ⟨rfl, rfl, rfl, by decide +kernel, rfl, by decide +kernel, by decide +kernel⟩
abbrev s_is_pair : Stmt := topS 3
abbrev N_is_pair : List Str := ["thing"]
theorem sc_is_pair : FnScope ["thing"] ["thing"] (defScope s_is_pair) := ⟨rfl, rfl, rfl, by decide +kernel, rfl, by decide +kernel, by decide +kernel⟩
abbrev s_is_web : Stmt := topS 8
abbrev N_is_web : List Str := ["thing", "node"]
theorem sc_is_web : FnScope ["thing", "node"] ["thing"] (defScope s_is_web) := ⟨rfl, rfl, rfl, by decide +kernel, rfl, by decide +kernel, by decide +kernel⟩
abbrev s_is_node : Stmt := topS 9
abbrev N_is_node : List Str := ["thing", "size", "move"]
theorem sc_is_node : FnScope ["thing", "size", "move"] ["thing", "size"] (defScope s_is_node) := ⟨rfl, rfl, rfl, by decide +kernel, rfl, by decide +kernel, by decide +kernel⟩
abbrev s_is_move : Stmt := topS 10
abbrev N_is_move : List Str := ["thing", "size"]
theorem sc_is_move : FnScope ["thing", "size"] ["thing", "size"] (defScope s_is_move) := ⟨rfl, rfl, rfl, by decide +kernel, rfl, by decide +kernel, by decide +kernel⟩
abbrev s__law_hand : Stmt := topS 12
abbrev N__law_hand : List Str := ["_law_script"]
theorem sc__law_hand : FnScope ["_law_script"] ["_law_script"] (defScope s__law_hand) := ⟨rfl, rfl, rfl, by decide +kernel, rfl, by decide +kernel, by decide +kernel⟩
abbrev s__law_draw : Stmt := topS 13
abbrev N__law_draw : List Str := ["_law_hand_here", "_law_size", "_law_value", "_law_cell", "_law_mixed"]
theorem sc__law_draw : FnScope ["_law_hand_here", "_law_size", "_law_value", "_law_cell", "_law_mixed"] ["_law_hand_here", "_law_size"] (defScope s__law_draw) := ⟨rfl, rfl, rfl, by decide +kernel, rfl, by decide +kernel, by decide +kernel⟩
abbrev s__law_web : Stmt := topS 14
abbrev N__law_web : List Str := ["_law_hand_here", "_law_most", "_law_many", "_law_size", "_law_found", "_law_node", "_law_moves", "_law_some", "_law_turn"]
theorem sc__law_web : FnScope ["_law_hand_here", "_law_most", "_law_many", "_law_size", "_law_found", "_law_node", "_law_moves", "_law_some", "_law_turn"] ["_law_hand_here", "_law_most"] (defScope s__law_web) := ⟨rfl, rfl, rfl, by decide +kernel, rfl, by decide +kernel, by decide +kernel⟩
abbrev s__law_is_number : Stmt := topS 15
abbrev N__law_is_number : List Str := ["_law_item", "_law_low", "_law_high"]
theorem sc__law_is_number : FnScope ["_law_item", "_law_low", "_law_high"] ["_law_item", "_law_low", "_law_high"] (defScope s__law_is_number) := ⟨rfl, rfl, rfl, by decide +kernel, rfl, by decide +kernel, by decide +kernel⟩
abbrev s__law_is_web : Stmt := topS 16
abbrev N__law_is_web : List Str := ["_law_item", "_law_node", "_law_move"]
theorem sc__law_is_web : FnScope ["_law_item", "_law_node", "_law_move"] ["_law_item"] (defScope s__law_is_web) := ⟨rfl, rfl, rfl, by decide +kernel, rfl, by decide +kernel, by decide +kernel⟩
abbrev s__law_odd : Stmt := topS 17
abbrev N__law_odd : List Str := ["_law_hand_here", "_law_many", "_law_odd_here"]
theorem sc__law_odd : FnScope ["_law_hand_here", "_law_many", "_law_odd_here"] ["_law_hand_here", "_law_many"] (defScope s__law_odd) := ⟨rfl, rfl, rfl, by decide +kernel, rfl, by decide +kernel, by decide +kernel⟩
abbrev s__law_put : Stmt := topS 18
abbrev N__law_put : List Str := ["_law_hand_here", "_law_row", "_law_more", "_law_at", "_law_way"]
theorem sc__law_put : FnScope ["_law_hand_here", "_law_row", "_law_more", "_law_at", "_law_way"] ["_law_hand_here", "_law_row", "_law_more"] (defScope s__law_put) := ⟨rfl, rfl, rfl, by decide +kernel, rfl, by decide +kernel, by decide +kernel⟩
abbrev s__law_bent : Stmt := topS 19
abbrev N__law_bent : List Str := ["_law_hand_here", "_law_web_here", "_law_at", "_law_more", "_law_way", "_law_node", "_law_move"]
theorem sc__law_bent : FnScope ["_law_hand_here", "_law_web_here", "_law_at", "_law_more", "_law_way", "_law_node", "_law_move"] ["_law_hand_here", "_law_web_here"] (defScope s__law_bent) := ⟨rfl, rfl, rfl, by decide +kernel, rfl, by decide +kernel, by decide +kernel⟩
abbrev s_law : Stmt := topS 20
abbrev N_law : List Str := ["_law_script", "_law_hand_here", "_law_turn", "_law_web_here", "_law_step", "_law_bent_here", "_law_told", "_law_odd_here", "_law_many"]
theorem sc_law : FnScope ["_law_script", "_law_hand_here", "_law_turn", "_law_web_here", "_law_step", "_law_bent_here", "_law_told", "_law_odd_here", "_law_many"] ["_law_script"] (defScope s_law) := ⟨rfl, rfl, rfl, by decide +kernel, rfl, by decide +kernel, by decide +kernel⟩
structure Top (K : PySem.W.Frag) (mg : Str → Option Value) where
  f_is_whole : Addr
  d_is_whole : FuncData
  D_is_whole : DefAt K mg "is_whole" s_is_whole ["thing"] f_is_whole d_is_whole
  f_is_whole_in : Addr
  d_is_whole_in : FuncData
  D_is_whole_in : DefAt K mg "is_whole_in" s_is_whole_in ["thing", "low", "high"] f_is_whole_in d_is_whole_in
  f_is_pair : Addr
  d_is_pair : FuncData
  D_is_pair : DefAt K mg "is_pair" s_is_pair ["thing"] f_is_pair d_is_pair
  f_is_web : Addr
  d_is_web : FuncData
  D_is_web : DefAt K mg "is_web" s_is_web ["thing"] f_is_web d_is_web
  f_is_node : Addr
  d_is_node : FuncData
  D_is_node : DefAt K mg "is_node" s_is_node ["thing", "size"] f_is_node d_is_node
  f_is_move : Addr
  d_is_move : FuncData
  D_is_move : DefAt K mg "is_move" s_is_move ["thing", "size"] f_is_move d_is_move
  f__law_hand : Addr
  d__law_hand : FuncData
  D__law_hand : DefAt K mg "_law_hand" s__law_hand ["_law_script"] f__law_hand d__law_hand
  f__law_draw : Addr
  d__law_draw : FuncData
  D__law_draw : DefAt K mg "_law_draw" s__law_draw ["_law_hand_here", "_law_size"] f__law_draw d__law_draw
  f__law_web : Addr
  d__law_web : FuncData
  D__law_web : DefAt K mg "_law_web" s__law_web ["_law_hand_here", "_law_most"] f__law_web d__law_web
  f__law_is_number : Addr
  d__law_is_number : FuncData
  D__law_is_number : DefAt K mg "_law_is_number" s__law_is_number ["_law_item", "_law_low", "_law_high"] f__law_is_number d__law_is_number
  f__law_is_web : Addr
  d__law_is_web : FuncData
  D__law_is_web : DefAt K mg "_law_is_web" s__law_is_web ["_law_item"] f__law_is_web d__law_is_web
  f__law_odd : Addr
  d__law_odd : FuncData
  D__law_odd : DefAt K mg "_law_odd" s__law_odd ["_law_hand_here", "_law_many"] f__law_odd d__law_odd
  f__law_put : Addr
  d__law_put : FuncData
  D__law_put : DefAt K mg "_law_put" s__law_put ["_law_hand_here", "_law_row", "_law_more"] f__law_put d__law_put
  f__law_bent : Addr
  d__law_bent : FuncData
  D__law_bent : DefAt K mg "_law_bent" s__law_bent ["_law_hand_here", "_law_web_here"] f__law_bent d__law_bent
  b_isinstance : mg "isinstance" = none
  b_int : mg "int" = none
  b_bool : mg "bool" = none
  b_tuple : mg "tuple" = none
  b_list : mg "list" = none
  b_len : mg "len" = none
  b_all : mg "all" = none
  b_range : mg "range" = none
  b_max : mg "max" = none
  b_min : mg "min" = none
  b_abs : mg "abs" = none
  b_str : mg "str" = none
  t_MOST_NODES : Tok
  c_MOST_NODES : mg "MOST_NODES" = some (.int 120 t_MOST_NODES)
  t_MOST_MOVES : Tok
  c_MOST_MOVES : mg "MOST_MOVES" = some (.int 12 t_MOST_MOVES)
  t_MOST_WEIGHT : Tok
  c_MOST_WEIGHT : mg "MOST_WEIGHT" = some (.int 1000000 t_MOST_WEIGHT)
  KN_is_web : KBn K d_is_web ["thing"] 0 ["thing"] (fun _ ws => ws) (fun _ zs => zs)
end K01

set_option Elab.async false
set_option linter.all false
set_option maxRecDepth 100000
set_option maxHeartbeats 4000000
namespace K01
open PySem PySem.Spec PyProof.Rows L2
def rLenSeq (K : PySem.W.Frag) : List V → Hp → VK → Prop := fun xs H Q => ∃ p ys, xs = [V.ref p] ∧ (SqL K H p ys ∨ SqT K H p ys) ∧ Q (V.int (ys.length : Nat)) H
/-! ### data: what is known of a value; h: the address of the hand, which no datum is -/
inductive Kn (h : Addr) (H : Hp) : V → Prop
  | non : Kn h H .non
  | bl (b : Bool) : Kn h H (.bl b)
  | int (i : Int) : Kn h H (.int i)
  | str (s : Str) : Kn h H (.str s)
  | tup (a : Addr) (xs : List V) (e : H a = some (.tup xs)) (z : xs.length ≤ 1000) (k : ∀ x ∈ xs, Kn h H x) : Kn h H (.ref a)
  | lst (a : Addr) (xs : List V) (n : a ≠ h) (e : H a = some (.lst xs)) : Kn h H (.ref a)
  | dct (a : Addr) (kvs : List (Key × V)) (e : H a = some (.dK kvs)) : Kn h H (.ref a)
/-- all but the object at h stays -/
def But (h : Addr) (H H' : Hp) : Prop := ∀ a o, a ≠ h → H a = some o → H' a = some o
theorem But.of {h : Addr} {H H' : Hp} (s : Same H H') : But h H H' := fun a o _ e => s a o e
theorem But.refl (h : Addr) (H : Hp) : But h H H := fun _ _ _ e => e
theorem But.trans {h : Addr} {H H1 H2 : Hp} (a : But h H H1) (b : But h H1 H2) : But h H H2 := fun c o n e => b c o n (a c o n e)
def IsL (h : Addr) (H : Hp) : Prop := ∃ xs, H h = some (.lst xs)
theorem IsL.ne {h : Addr} {H : Hp} (l : IsL h H) {a : Addr} {o : HO} (e : H a = some o) (n : ∀ xs, o ≠ .lst xs) : a ≠ h := fun z => by
  obtain ⟨xs, q⟩ := l
  rw [z, q] at e
  exact n xs (Option.some.inj e).symm
theorem Kn.mono {h : Addr} {H H' : Hp} (l : IsL h H) (s : But h H H') {v : V} (k : Kn h H v) : Kn h H' v := by
  induction k with
  | non => exact .non
  | bl b => exact .bl b
  | int i => exact .int i
  | str s => exact .str s
  | tup a xs e z _ ih => exact .tup a xs (s a _ (l.ne e (fun _ z => nomatch z)) e) z ih
  | lst a xs n e => exact .lst a xs n (s a _ n e)
  | dct a kvs e => exact .dct a kvs (s a _ (l.ne e (fun _ z => nomatch z)) e)
theorem Kn.same {h : Addr} {H H' : Hp} (s : Same H H') {v : V} (k : Kn h H v) : Kn h H' v := by
  induction k with
  | non => exact .non
  | bl b => exact .bl b
  | int i => exact .int i
  | str s => exact .str s
  | tup a xs e z _ ih => exact .tup a xs (s a _ e) z ih
  | lst a xs n e => exact .lst a xs n (s a _ e)
  | dct a kvs e => exact .dct a kvs (s a _ e)
/-- the items of a tuple -/
def tupOf (H : Hp) : V → Option (List V)
  | .ref a => match H a with
    | some (.tup xs) => some xs
    | _ => none
  | _ => none
theorem tupOf_ref {H : Hp} {a : Addr} {xs : List V} (e : H a = some (.tup xs)) : tupOf H (.ref a) = some xs := by
  show (match H a with | some (.tup xs) => some xs | _ => none) = some xs
  rw [e]
theorem tupOf_some {H : Hp} {v : V} {xs : List V} (e : tupOf H v = some xs) : ∃ a, v = .ref a ∧ H a = some (.tup xs) := by
  cases v with
  | ref a =>
    have e' : (match H a with | some (.tup xs) => some xs | _ => none) = some xs := e
    refine ⟨a, rfl, ?_⟩
    cases q : H a with
    | none => rw [q] at e'; cases e'
    | some o =>
      rw [q] at e'
      cases o <;> first | (cases e'; rfl) | cases e'
  | _ => cases e
theorem Kn.tupOf_same {h : Addr} {H H' : Hp} (s : Same H H') {v : V} (k : Kn h H v) : tupOf H' v = tupOf H v := by
  cases k with
  | non => rfl
  | bl b => rfl
  | int i => rfl
  | str s => rfl
  | tup a xs e z _ => rw [tupOf_ref e, tupOf_ref (s a _ e)]
  | lst a xs n e =>
    show (match H' a with | some (.tup xs) => some xs | _ => none) = (match H a with | some (.tup xs) => some xs | _ => none)
    rw [e, s a _ e]
  | dct a kvs e =>
    show (match H' a with | some (.tup xs) => some xs | _ => none) = (match H a with | some (.tup xs) => some xs | _ => none)
    rw [e, s a _ e]
theorem Kn.items {h : Addr} {H : Hp} {v : V} (k : Kn h H v) {xs : List V} (e : tupOf H v = some xs) : xs.length ≤ 1000 ∧ ∀ x ∈ xs, Kn h H x := by
  cases k with
  | tup a ys q z f =>
    rw [tupOf_ref q] at e
    cases e
    exact ⟨z, f⟩
  | lst a ys n q =>
    have e' : (match H a with | some (.tup xs) => some xs | _ => none) = some xs := e
    rw [q] at e'
    cases e'
  | dct a ys q =>
    have e' : (match H a with | some (.tup xs) => some xs | _ => none) = some xs := e
    rw [q] at e'
    cases e'
  | _ => cases e
/-! ### what a web is -/
def IsWI (lo hi : Int) (v : V) : Prop := ∃ i, v = .int i ∧ lo ≤ i ∧ i ≤ hi
def IsMove (H : Hp) (n : Int) (v : V) : Prop := ∃ x y, tupOf H v = some [x, y] ∧ IsWI (-1000000) 1000000 x ∧ IsWI 0 (n - 1) y
def IsNode (H : Hp) (n : Int) (v : V) : Prop := ∃ xs, tupOf H v = some xs ∧ (1 ≤ xs.length ∧ xs.length ≤ 12) ∧ ∀ x ∈ xs, IsMove H n x
def IsWeb (H : Hp) (v : V) : Prop := ∃ xs, tupOf H v = some xs ∧ (1 ≤ xs.length ∧ xs.length ≤ 120) ∧ ∀ x ∈ xs, IsNode H xs.length x
theorem Kn.isMove {h : Addr} {H H' : Hp} (s : Same H H') {n : Int} {v : V} (k : Kn h H v) : IsMove H' n v ↔ IsMove H n v := by
  unfold IsMove
  rw [k.tupOf_same s]
theorem Kn.isNode {h : Addr} {H H' : Hp} (s : Same H H') {n : Int} {v : V} (k : Kn h H v) : IsNode H' n v ↔ IsNode H n v := by
  unfold IsNode
  rw [k.tupOf_same s]
  constructor
  · rintro ⟨xs, e, z, f⟩
    exact ⟨xs, e, z, fun x m => (((k.items e).2 x m).isMove s).mp (f x m)⟩
  · rintro ⟨xs, e, z, f⟩
    exact ⟨xs, e, z, fun x m => (((k.items e).2 x m).isMove s).mpr (f x m)⟩
theorem Kn.isWeb {h : Addr} {H H' : Hp} (s : Same H H') {v : V} (k : Kn h H v) : IsWeb H' v ↔ IsWeb H v := by
  unfold IsWeb
  rw [k.tupOf_same s]
  constructor
  · rintro ⟨xs, e, z, f⟩
    exact ⟨xs, e, z, fun x m => (((k.items e).2 x m).isNode s).mp (f x m)⟩
  · rintro ⟨xs, e, z, f⟩
    exact ⟨xs, e, z, fun x m => (((k.items e).2 x m).isNode s).mpr (f x m)⟩
/-! ### isinstance of a datum -/
def isIntB : V → Bool
  | .int _ => true
  | .bl _ => true
  | _ => false
def isBlB : V → Bool
  | .bl _ => true
  | _ => false
theorem Kn.isi_int {K : PySem.W.Frag} {h : Addr} {H : Hp} {v : V} (k : Kn h H v) : ∃ t, TyX K H v t ∧ PySem.W.kitOne K t (.type "int") = some (isIntB v) := by
  cases k with
  | non => exact ⟨_, .base .non, kit_ty (by show kitB _ _ = some false; decide +kernel)⟩
  | bl b => exact ⟨_, .base (.bl b), kit_ty (by show kitB _ _ = some true; decide +kernel)⟩
  | int i => exact ⟨_, .base (.int i), kit_ty (by show kitB _ _ = some true; decide +kernel)⟩
  | str s => exact ⟨_, .base (.str s), kit_ty (by show kitB _ _ = some false; decide +kernel)⟩
  | tup a xs e z _ => exact ⟨_, .base (.tup e), kit_ty (by show kitB _ _ = some false; decide +kernel)⟩
  | lst a xs n e => exact ⟨_, .base (.lst e), kit_ty (by show kitB _ _ = some false; decide +kernel)⟩
  | dct a kvs e => exact ⟨_, .base (.dK e), kit_ty (by show kitB _ _ = some false; decide +kernel)⟩
theorem Kn.isi_bool {K : PySem.W.Frag} {h : Addr} {H : Hp} {v : V} (k : Kn h H v) : ∃ t, TyX K H v t ∧ PySem.W.kitOne K t (.type "bool") = some (isBlB v) := by
  cases k with
  | non => exact ⟨_, .base .non, kit_ty (by show kitB _ _ = some false; decide +kernel)⟩
  | bl b => exact ⟨_, .base (.bl b), kit_ty (by show kitB _ _ = some true; decide +kernel)⟩
  | int i => exact ⟨_, .base (.int i), kit_ty (by show kitB _ _ = some false; decide +kernel)⟩
  | str s => exact ⟨_, .base (.str s), kit_ty (by show kitB _ _ = some false; decide +kernel)⟩
  | tup a xs e z _ => exact ⟨_, .base (.tup e), kit_ty (by show kitB _ _ = some false; decide +kernel)⟩
  | lst a xs n e => exact ⟨_, .base (.lst e), kit_ty (by show kitB _ _ = some false; decide +kernel)⟩
  | dct a kvs e => exact ⟨_, .base (.dK e), kit_ty (by show kitB _ _ = some false; decide +kernel)⟩
theorem Kn.isi_tup {K : PySem.W.Frag} {h : Addr} {H : Hp} {v : V} (k : Kn h H v) : ∃ t, TyX K H v t ∧ PySem.W.kitOne K t (.type "tuple") = some (tupOf H v).isSome := by
  cases k with
  | non => exact ⟨_, .base .non, kit_ty (by show kitB _ _ = some false; decide +kernel)⟩
  | bl b => exact ⟨_, .base (.bl b), kit_ty (by show kitB _ _ = some false; decide +kernel)⟩
  | int i => exact ⟨_, .base (.int i), kit_ty (by show kitB _ _ = some false; decide +kernel)⟩
  | str s => exact ⟨_, .base (.str s), kit_ty (by show kitB _ _ = some false; decide +kernel)⟩
  | tup a xs e z _ =>
    rw [tupOf_ref e]
    exact ⟨_, .base (.tup e), kit_ty (by show kitB _ _ = some true; decide +kernel)⟩
  | lst a xs n e =>
    have q : (tupOf H (.ref a)).isSome = false := by
      show (match H a with | some (.tup xs) => some xs | _ => none).isSome = false
      rw [e]
      rfl
    rw [q]
    exact ⟨_, .base (.lst e), kit_ty (by show kitB _ _ = some false; decide +kernel)⟩
  | dct a kvs e =>
    have q : (tupOf H (.ref a)).isSome = false := by
      show (match H a with | some (.tup xs) => some xs | _ => none).isSome = false
      rw [e]
      rfl
    rw [q]
    exact ⟨_, .base (.dK e), kit_ty (by show kitB _ _ = some false; decide +kernel)⟩
theorem same_upd {H : Hp} {p : Addr} {o : HO} (h : H p = none) : Same H (upd H p o) := fun b x e => by
  rw [upd_ne (ne_of_none e h)]
  exact e
section
variable {P : Program} {w : World} {K : PySem.W.Frag} {mg : Str → Option Value} {base : Heap}
/-! ### is_whole, is_whole_in, _law_is_number -/
def spWhole : Sp := fun vs H Q _ => ∃ h v, vs = [v] ∧ Kn h H v ∧ ∀ b : Bool, (b = true ↔ ∃ i, v = .int i) → Q (.bl b) H
theorem ok_is_whole (T : Top K mg) : FnOk P w K mg base CX0 1 T.f_is_whole T.d_is_whole ["thing"] spWhole := by
  refine T.D_is_whole.F.ok sc_is_whole (fun vs H Q E h => ?_) (fun cdv A outer s H vs Q E hr h => ?_)
  · obtain ⟨h, v, rfl, _⟩ := h
    rfl
  obtain ⟨h, v, rfl, k, q⟩ := h
  refine ⟨_, (pss_one (ps_ret (pe_and (pe_callB call_isi rfl T.b_isinstance (by decide +kernel) (pa_cons (pv 0) (pa_cons (pe_bltn (v := .ty "int") rfl T.b_int (by decide +kernel) rfl) pa_nil))) (pe_one (pe_not (pe_callB call_isi rfl T.b_isinstance (by decide +kernel) (pa_cons (pv 0) (pa_cons (pe_bltn (v := .ty "bool") rfl T.b_bool (by decide +kernel) rfl) pa_nil)))))))), ?_⟩
  obtain ⟨t, ht, kt⟩ := k.isi_int (K := K)
  obtain ⟨u, hu, ku⟩ := k.isi_bool (K := K)
  refine ⟨v, rfl, v, .ty "int", t, .type "int", isIntB v, rfl, .ty "int", ht, kt, isIntB v, rfl, ite2 (fun c => ?_) (fun c => ?_)⟩
  · refine ⟨v, rfl, v, .ty "bool", u, .type "bool", isBlB v, rfl, .ty "bool", hu, ku, isBlB v, rfl, q _ ?_⟩
    cases v <;> simp_all [isIntB, isBlB]
  · refine q _ ?_
    cases v <;> simp_all [isIntB]
def spIn : Sp := fun vs H Q _ => ∃ h v lo hi, vs = [v, .int lo, .int hi] ∧ Kn h H v ∧ ∀ b : Bool, (b = true ↔ IsWI lo hi v) → Q (.bl b) H
theorem ok_is_whole_in (T : Top K mg) : FnOk P w K mg base CX0 2 T.f_is_whole_in T.d_is_whole_in ["thing", "low", "high"] spIn := by
  have G_is_whole : FnOk P w K mg base CX0 1 T.f_is_whole T.d_is_whole ["thing"] spWhole := ok_is_whole T
  refine T.D_is_whole_in.F.ok sc_is_whole_in (fun vs H Q E h => ?_) (fun cdv A outer s H vs Q E hr h => ?_)
  · obtain ⟨h, v, lo, hi, rfl, _⟩ := h
    rfl
  obtain ⟨h, v, lo, hi, rfl, k, q⟩ := h
  refine ⟨_, (pss_one (ps_ret (pe_and (pe_call G_is_whole (hr.mono (by decide)) rfl T.D_is_whole.g T.D_is_whole.F.kp T.D_is_whole.b .nil pass0 (pa_cons (pv 0) pa_nil)) (pe_one (pe_chain op_le op_le (pv 1) (pv 0) (pv 2)))))), ?_⟩
  refine ⟨v, rfl, h, v, rfl, k, fun b hb => ⟨b, rfl, ite2 (fun c => ?_) (fun c => ?_)⟩⟩
  · obtain ⟨i, rfl⟩ := hb.mp c
    refine ⟨_, rfl, _, rfl, lo, i, rfl, rfl, _, rfl, ite2 (fun c1 => ?_) (fun c1 => ?_)⟩
    · refine ⟨_, rfl, i, hi, rfl, rfl, q _ ?_⟩
      have c2 := of_decide_eq_true c1
      constructor
      · intro d
        exact ⟨i, rfl, c2, of_decide_eq_true d⟩
      · rintro ⟨j, e, d1, d2⟩
        cases e
        exact decide_eq_true d2
    · refine q _ ?_
      constructor
      · intro d
        cases d
      · rintro ⟨j, e, d1, d2⟩
        cases e
        exact absurd (decide_eq_true d1) c1
  · refine q _ ?_
    constructor
    · intro d
      cases d
    · rintro ⟨j, e, d1, d2⟩
      exact absurd (hb.mpr ⟨j, e⟩) c
end
end K01

set_option Elab.async false
set_option linter.all false
set_option maxRecDepth 100000
set_option maxHeartbeats 4000000
namespace K01
open PySem PySem.Spec PyProof.Rows L2
theorem boot_tuple' : bootBuiltins "tuple" = some (.type "tuple") := by decide +kernel
section
variable {P : Program} {w : World} {K : PySem.W.Frag} {mg : Str → Option Value} {base : Heap}
def spPair : Sp := fun vs H Q _ => ∃ h v, vs = [v] ∧ Kn h H v ∧ ∀ b : Bool, (b = true ↔ ∃ x y, tupOf H v = some [x, y]) → Q (.bl b) H
theorem two_of {xs : List V} (h : xs.length = 2) : ∃ x y, xs = [x, y] := by
  match xs, h with
  | [x, y], _ => exact ⟨x, y, rfl⟩
theorem ok_is_pair (T : Top K mg) : FnOk P w K mg base CX0 1 T.f_is_pair T.d_is_pair ["thing"] spPair := by
  refine T.D_is_pair.F.ok sc_is_pair (fun vs H Q E h => ?_) (fun cdv A outer s H vs Q E hr h => ?_)
  · obtain ⟨h, v, rfl, _⟩ := h
    rfl
  obtain ⟨h, v, rfl, k, q⟩ := h
  refine ⟨_, (pss_one (ps_ret (pe_and (pe_callB call_isi rfl T.b_isinstance (by decide +kernel) (pa_cons (pv 0) (pa_cons (pe_bltn (v := .ty "tuple") rfl T.b_tuple (by decide +kernel) rfl) pa_nil))) (pe_one (pe_cmpR op_eq (pe_callB call_len_seq rfl T.b_len (by decide +kernel) (pa_cons (pv 0) pa_nil)) pe_int (nomark _)))))), ?_⟩
  obtain ⟨t, ht, kt⟩ := k.isi_tup (K := K)
  refine ⟨v, rfl, v, .ty "tuple", t, .type "tuple", _, rfl, .ty "tuple", ht, kt, _, rfl, ite2 (fun c => ?_) (fun c => ?_)⟩
  · obtain ⟨xs, e⟩ := Option.isSome_iff_exists.mp c
    obtain ⟨a, rfl, ea⟩ := tupOf_some e
    refine ⟨.ref a, rfl, a, xs, rfl, .inr (SqT.of ea), rfl, q _ ?_⟩
    constructor
    · intro d
      have d2 : ((xs.length : Nat) : Int) = 2 := V.int.inj (of_decide_eq_true d)
      obtain ⟨x, y, rfl⟩ := two_of (xs := xs) (by omega)
      exact ⟨x, y, e⟩
    · rintro ⟨x, y, e2⟩
      rw [e] at e2
      cases e2
      exact decide_eq_true rfl
  · refine q _ ?_
    constructor
    · intro d
      cases d
    · rintro ⟨x, y, e2⟩
      rw [e2] at c
      exact absurd rfl c
def spMove : Sp := fun vs H Q _ => ∃ h v n, vs = [v, .int n] ∧ Kn h H v ∧ ∀ b : Bool, (b = true ↔ IsMove H n v) → Q (.bl b) H
theorem ok_is_move (T : Top K mg) : FnOk P w K mg base CX0 3 T.f_is_move T.d_is_move ["thing", "size"] spMove := by
  have G_is_pair : FnOk P w K mg base CX0 1 T.f_is_pair T.d_is_pair ["thing"] spPair := ok_is_pair T
  have G_is_whole_in : FnOk P w K mg base CX0 2 T.f_is_whole_in T.d_is_whole_in ["thing", "low", "high"] spIn := ok_is_whole_in T
  refine T.D_is_move.F.ok sc_is_move (fun vs H Q E h => ?_) (fun cdv A outer s H vs Q E hr h => ?_)
  · obtain ⟨h, v, n, rfl, _⟩ := h
    rfl
  obtain ⟨h, v, n, rfl, k, q⟩ := h
  refine ⟨_, (pss_cons (ps_if (pt_not (pt_val (pe_call G_is_pair (hr.mono (by decide)) rfl T.D_is_pair.g T.D_is_pair.F.kp T.D_is_pair.b .nil pass0 (pa_cons (pv 0) pa_nil))))
      (pss_one (ps_ret pe_bl))
      pss_nil)
    (pss_one (ps_ret (pe_and (pe_call G_is_whole_in (hr.mono (by decide)) rfl T.D_is_whole_in.g T.D_is_whole_in.F.kp T.D_is_whole_in.b .nil pass0 (pa_cons (pe_ix ix_tup (pv 0) pe_int (fun _ _ => rfl)) (pa_cons (pe_un un_neg (pe_glob (v := .int 1000000) rfl T.c_MOST_WEIGHT ⟨_, rfl⟩)) (pa_cons (pe_glob (v := .int 1000000) rfl T.c_MOST_WEIGHT ⟨_, rfl⟩) pa_nil)))) (pe_one (pe_call G_is_whole_in (hr.mono (by decide)) rfl T.D_is_whole_in.g T.D_is_whole_in.F.kp T.D_is_whole_in.b .nil pass0 (pa_cons (pe_ix ix_tup (pv 0) pe_int (fun _ _ => rfl)) (pa_cons pe_int (pa_cons (pe_op op_sub (pv 1) pe_int) pa_nil))))))))), ?_⟩
  refine ⟨v, rfl, h, v, rfl, k, fun b hb => ⟨b, rfl, ite2 (fun c => ?_) (fun c => ?_)⟩⟩
  · refine q _ ⟨fun d => (nomatch d), fun d => ?_⟩
    obtain ⟨x, y, e, _⟩ := d
    have := hb.mpr ⟨x, y, e⟩
    rw [this] at c
    cases c
  · have hb1 : b = true := by
      cases b with
      | true => rfl
      | false => exact absurd rfl c
    obtain ⟨x, y, e⟩ := hb.mp hb1
    obtain ⟨a, rfl, ea⟩ := tupOf_some e
    have kx := (k.items e).2 x (by simp)
    have ky := (k.items e).2 y (by simp)
    refine ⟨.ref a, rfl, a, _, 0, x, rfl, rfl, SqT.of ea, atI_nat (j := 0) rfl, 1000000, rfl, h, x, -1000000, 1000000, rfl, kx, fun b1 h1 => ⟨b1, rfl, ite2 (fun c1 => ?_) (fun c1 => ?_)⟩⟩
    · refine ⟨.ref a, rfl, a, _, 1, y, rfl, rfl, SqT.of ea, atI_nat (j := 1) rfl, .int n, rfl, n, 1, rfl, rfl, h, y, 0, n - 1, rfl, ky, fun b2 h2 => q _ ?_⟩
      constructor
      · intro d
        exact ⟨x, y, e, h1.mp c1, h2.mp d⟩
      · rintro ⟨x', y', e', d1, d2⟩
        rw [e] at e'
        cases e'
        exact h2.mpr d2
    · refine q _ ⟨fun d => (nomatch d), ?_⟩
      rintro ⟨x', y', e', d1, d2⟩
      rw [e] at e'
      cases e'
      exact absurd (h1.mpr d1) c1
noncomputable def fB (p : V → Prop) (x : V) : Bool := @decide (p x) (Classical.propDecidable _)
theorem fB_iff {p : V → Prop} {x : V} : fB p x = true ↔ p x := by
  unfold fB
  exact @decide_eq_true_iff (p x) (Classical.propDecidable _)
theorem all_fB {p : V → Prop} {xs : List V} : (xs.map (fB p)).all id = true ↔ ∀ x ∈ xs, p x := by
  rw [List.all_map, List.all_eq_true]
  exact ⟨fun h x m => fB_iff.mp (h x m), fun h x m => fB_iff.mpr (h x m)⟩
theorem take_map_succ {α β : Type} {f : α → β} {xs : List α} {i : Nat} {x : α} (h : xs[i]? = some x) : (xs.take (i + 1)).map f = (xs.take i).map f ++ [f x] := by
  rw [List.take_add_one, h, List.map_append]
  rfl
def spNode : Sp := fun vs H Q _ => ∃ h v n, vs = [v, .int n] ∧ Kn h H v ∧ ∀ (b : Bool) H', Same H H' → (b = true ↔ IsNode H n v) → Q (.bl b) H'
theorem ok_is_node (T : Top K mg) : FnOk P w K mg base CX0 4 T.f_is_node T.d_is_node ["thing", "size"] spNode := by
  have G_is_move : FnOk P w K mg base CX0 3 T.f_is_move T.d_is_move ["thing", "size"] spMove := ok_is_move T
  refine T.D_is_node.F.ok sc_is_node (fun vs H Q E h => ?_) (fun cdv A outer s H vs Q E hr h => ?_)
  · obtain ⟨h, v, n, rfl, _⟩ := h
    rfl
  obtain ⟨h, v, n, rfl, k, q⟩ := h
  refine ⟨_, (pss_cons (ps_if (pt_not (PW.pt (pw_and (pt_val (pe_callB call_isi rfl T.b_isinstance (by decide +kernel) (pa_cons (pv 0) (pa_cons (pe_bltn (v := .ty "tuple") rfl T.b_tuple (by decide +kernel) rfl) pa_nil)))) (pw_and1 (pt_chain op_le op_le pe_int (pe_callB call_len_seq rfl T.b_len (by decide +kernel) (pa_cons (pv 0) pa_nil)) (pe_glob (v := .int 12) rfl T.c_MOST_MOVES ⟨_, rfl⟩))))))
      (pss_one (ps_ret pe_bl))
      pss_nil)
    (pss_one (ps_ret (pe_callB (cr_all rfl) rfl T.b_all (by decide +kernel) (pa_cons (pe_lc (own := [("move", 2)]) (g := gName 2) (tt := tYes) rfl sc_is_node.nd (pi_tup (pv 0)) (blkOk_by (N := N_is_node) (sc := defScope s_is_node) (by decide +kernel)) (fun _ _ _ _ _ => pg_name (i := 2) sc_is_node.nd rfl (Or.inl rfl)) (fun _ _ _ _ _ => pts_nil) (fun _ _ _ _ _ => (pe_call G_is_move (hr.mono (by decide)) rfl T.D_is_move.g T.D_is_move.F.kp T.D_is_move.b .nil pass0 (pa_cons (pv 2) (pa_cons (pv 1) pa_nil))))) pa_nil))))), ?_⟩
  obtain ⟨t, ht, kt⟩ := k.isi_tup (K := K)
  have bad : ∀ H', Same H H' → ¬ IsNode H n v → Q (.bl false) H' := fun H' s' ni => q _ _ s' ⟨fun d => (nomatch d), fun d => absurd d ni⟩
  have rest : ∀ a xs, v = .ref a → H a = some (.tup xs) → (1 ≤ xs.length ∧ xs.length ≤ 12) → ∀ D : Addr, H D = none → ∀ H', Same H H' → H' D = some (.lst ((xs.take xs.length).map fun x => V.bl (fB (IsMove H n) x))) →
      Q (.bl (((xs.map (fB (IsMove H n))).all id))) H' := fun a xs e1 e2 z D hD H' s' _ => q _ _ s' (by
    subst e1
    rw [all_fB]
    unfold IsNode
    constructor
    · intro d
      exact ⟨xs, tupOf_ref e2, z, d⟩
    · rintro ⟨ys, e3, _, d⟩
      rw [tupOf_ref e2] at e3
      cases e3
      exact d)
  refine ⟨v, rfl, v, .ty "tuple", t, .type "tuple", _, rfl, .ty "tuple", ht, kt, _, rfl, ite2 (fun c => ?_) (fun c => ?_)⟩
  · obtain ⟨xs, e⟩ := Option.isSome_iff_exists.mp c
    obtain ⟨a, rfl, ea⟩ := tupOf_some e
    refine ⟨.ref a, rfl, a, xs, rfl, .inr (SqT.of ea), 1, xs.length, rfl, rfl, _, rfl, ite2 (fun c1 => ?_) (fun c1 => ?_)⟩
    · refine ⟨xs.length, 12, rfl, rfl, _, rfl, ite2 (fun c2 => ?_) (fun c2 => ?_)⟩
      · refine bad H (Same.refl H) ?_
        rintro ⟨ys, e3, z, _⟩
        rw [e] at e3
        cases e3
        have : decide (((xs.length : Nat) : Int) ≤ 12) = true := decide_eq_true (by omega)
        rw [this] at c2
        cases c2
      · have d1 : (1 : Int) ≤ ((xs.length : Nat) : Int) := of_decide_eq_true c1
        have d2 : ((xs.length : Nat) : Int) ≤ 12 := by
          by_cases d : ((xs.length : Nat) : Int) ≤ 12
          · exact d
          · rw [decide_eq_false d] at c2
            exact absurd rfl c2
        have z : 1 ≤ xs.length ∧ xs.length ≤ 12 := by omega
        refine ⟨.ref a, rfl, a, rfl, ⟨xs, SqT.of ea⟩, fun D hD => lc_tup (xs := xs) (fun i H' => Same H H' ∧ H' D = some (.lst ((xs.take i).map fun x => V.bl (fB (IsMove H n) x)))) ⟨same_upd hD, upd_same⟩ (fun i H' _ p => SqT.of (p.1 _ _ ea)) (fun i x H' hx p => ?_) (fun H' p => ?_)⟩
        · obtain ⟨s1, eD⟩ := p
          have kx : Kn h H x := (k.items e).2 x (List.mem_of_getElem? hx)
          refine ⟨rfl, x, rfl, .int n, rfl, h, x, n, rfl, kx.same s1, fun b hb => ⟨_, eD, ?_, ?_, ?_⟩⟩
          · rw [List.length_map, List.length_take]
            exact small1000 (by omega)
          · intro u o eu
            rw [upd_ne (ne_of_none eu hD)]
            exact s1 _ _ eu
          · rw [upd_same, take_map_succ hx]
            have : b = fB (IsMove H n) x := by
              rw [Bool.eq_iff_iff, hb, fB_iff, kx.isMove s1]
            rw [this]
        · obtain ⟨s1, eD⟩ := p
          rw [List.take_length] at eD
          refine ⟨D, xs.map (fB (IsMove H n)), rfl, SqL.of (by rw [eD, List.map_map]; rfl), ?_⟩
          exact rest a xs rfl ea z D hD H' s1 (by rw [eD, List.take_length])
    · refine ⟨_, rfl, ite2 (fun c2 => bad H (Same.refl H) ?_) (fun c2 => absurd rfl c2)⟩
      rintro ⟨ys, e3, z, _⟩
      rw [e] at e3
      cases e3
      exact c1 (show decide ((1 : Int) ≤ ((xs.length : Nat) : Int)) = true from decide_eq_true (by omega))
  · refine ite2 (fun c2 => bad H (Same.refl H) ?_) (fun c2 => absurd rfl c2)
    rintro ⟨ys, e3, z, _⟩
    rw [e3] at c
    exact absurd rfl c
end
end K01

set_option Elab.async false
set_option linter.all false
set_option maxRecDepth 100000
set_option maxHeartbeats 4000000
namespace K01
open PySem PySem.Spec PyProof.Rows L2
section
variable {P : Program} {w : World} {K : PySem.W.Frag} {mg : Str → Option Value} {base : Heap}
def spWeb : Sp := fun vs H Q _ => ∃ h v, vs = [v] ∧ Kn h H v ∧ ∀ (b : Bool) H', Same H H' → (b = true ↔ IsWeb H v) → Q (.bl b) H'
theorem ok_is_web (T : Top K mg) : FnOk P w K mg base CX0 5 T.f_is_web T.d_is_web ["thing"] spWeb := by
  have G_is_node : FnOk P w K mg base CX0 4 T.f_is_node T.d_is_node ["thing", "size"] spNode := ok_is_node T
  refine T.D_is_web.F.ok sc_is_web (fun vs H Q E h => ?_) (fun cdv A outer s H vs Q E hr h => ?_)
  · obtain ⟨h, v, rfl, _⟩ := h
    rfl
  obtain ⟨h, v, rfl, k, q⟩ := h
  refine ⟨_, (pss_cons (ps_if (pt_not (PW.pt (pw_and (pt_val (pe_callB call_isi rfl T.b_isinstance bt_isinstance (pa_cons (pv 0) (pa_cons (pe_bltn (v := .ty "tuple") rfl T.b_tuple bt_tuple rfl) pa_nil)))) (pw_and1 (pt_chain op_le op_le pe_int (pe_callB (r := rLenSeq K) call_len_seq rfl T.b_len bt_len (pa_cons (pv 0) pa_nil)) (pe_glob (v := .int 120) rfl T.c_MOST_NODES ⟨_, rfl⟩))))))
      (pss_one (ps_ret pe_bl))
      pss_nil)
    (pss_one (ps_ret (pe_callB (cr_all rfl) rfl T.b_all bt_all (pa_cons (pe_lc (own := [("node", 1)]) (g := gName 1) (tt := tYes) rfl sc_is_web.nd (pi_tup (pv 0)) (blkOk_by (N := N_is_web) (sc := defScope s_is_web) (by decide +kernel)) (fun _ _ _ _ _ => pg_name (i := 1) sc_is_web.nd rfl (Or.inl rfl)) (fun _ _ _ _ _ => pts_nil) (fun _ _ _ _ _ => (pe_call G_is_node (hr.mono (by decide)) rfl T.D_is_node.g T.D_is_node.F.kp T.D_is_node.b .nil pass0 (pa_cons (pv 1) (pa_cons (pe_callB (r := rLenSeq K) call_len_seq rfl T.b_len bt_len (pa_cons (pv 0) pa_nil)) pa_nil))))) pa_nil))))), ?_⟩
  obtain ⟨t, ht, kt⟩ := k.isi_tup (K := K)
  have bad : ∀ H', Same H H' → ¬ IsWeb H v → Q (.bl false) H' := fun H' s' ni => q _ _ s' ⟨fun d => (nomatch d), fun d => absurd d ni⟩
  refine ⟨v, rfl, v, .ty "tuple", t, .type "tuple", _, rfl, .ty "tuple", ht, kt, _, rfl, ite2 (fun c => ?_) (fun c => ?_)⟩
  · obtain ⟨xs, e⟩ := Option.isSome_iff_exists.mp c
    obtain ⟨a, rfl, ea⟩ := tupOf_some e
    refine ⟨.ref a, rfl, a, xs, rfl, .inr (SqT.of ea), 1, xs.length, rfl, rfl, _, rfl, ite2 (fun c1 => ?_) (fun c1 => ?_)⟩
    · refine ⟨xs.length, 120, rfl, rfl, _, rfl, ite2 (fun c2 => ?_) (fun c2 => ?_)⟩
      · refine bad H (Same.refl H) ?_
        rintro ⟨ys, e3, z, _⟩
        rw [e] at e3
        cases e3
        have : decide (((xs.length : Nat) : Int) ≤ 120) = true := decide_eq_true (by omega)
        rw [this] at c2
        cases c2
      · have d1 : (1 : Int) ≤ ((xs.length : Nat) : Int) := of_decide_eq_true c1
        have d2 : ((xs.length : Nat) : Int) ≤ 120 := by
          by_cases d : ((xs.length : Nat) : Int) ≤ 120
          · exact d
          · rw [decide_eq_false d] at c2
            exact absurd rfl c2
        have z : 1 ≤ xs.length ∧ xs.length ≤ 120 := by omega
        refine ⟨.ref a, rfl, a, rfl, ⟨xs, SqT.of ea⟩, fun D hD => lc_tup (xs := xs) (fun i H' => Same H H' ∧ H' D = some (.lst ((xs.take i).map fun x => V.bl (fB (IsNode H xs.length) x)))) ⟨same_upd hD, upd_same⟩ (fun i H' _ p => SqT.of (p.1 _ _ ea)) (fun i x H' hx p => ?_) (fun H' p => ?_)⟩
        · obtain ⟨s1, eD⟩ := p
          have kx : Kn h H x := (k.items e).2 x (List.mem_of_getElem? hx)
          refine ⟨rfl, x, rfl, .ref a, rfl, a, xs, rfl, .inr (SqT.of (s1 _ _ ea)), h, x, xs.length, rfl, kx.same s1, fun b H2 s2 hb => ⟨_, s2 _ _ eD, ?_, ?_, ?_⟩⟩
          · rw [List.length_map, List.length_take]
            exact small1000 (by omega)
          · intro u o eu
            rw [upd_ne (ne_of_none eu hD)]
            exact s2 _ _ (s1 _ _ eu)
          · rw [upd_same, take_map_succ hx]
            have : b = fB (IsNode H xs.length) x := by
              rw [Bool.eq_iff_iff, hb, fB_iff, kx.isNode s1]
            rw [this]
        · obtain ⟨s1, eD⟩ := p
          rw [List.take_length] at eD
          refine ⟨D, xs.map (fB (IsNode H xs.length)), rfl, SqL.of (by rw [eD, List.map_map]; rfl), q _ _ s1 ?_⟩
          rw [all_fB]
          constructor
          · intro d
            exact ⟨xs, e, z, d⟩
          · rintro ⟨ys, e3, _, d⟩
            rw [e] at e3
            cases e3
            exact d
    · refine ⟨_, rfl, ite2 (fun c2 => bad H (Same.refl H) ?_) (fun c2 => absurd rfl c2)⟩
      rintro ⟨ys, e3, z, _⟩
      rw [e] at e3
      cases e3
      exact c1 (show decide ((1 : Int) ≤ ((xs.length : Nat) : Int)) = true from decide_eq_true (by omega))
  · refine ite2 (fun c2 => bad H (Same.refl H) ?_) (fun c2 => absurd rfl c2)
    rintro ⟨ys, e3, z, _⟩
    rw [e3] at c
    exact absurd rfl c
/-! ### the law's own judge -/
theorem ok__law_is_number (T : Top K mg) : FnOk P w K mg base CX0 1 T.f__law_is_number T.d__law_is_number ["_law_item", "_law_low", "_law_high"] spIn := by
  refine T.D__law_is_number.F.ok sc__law_is_number (fun vs H Q E h => ?_) (fun cdv A outer s H vs Q E hr h => ?_)
  · obtain ⟨h, v, lo, hi, rfl, _⟩ := h
    rfl
  obtain ⟨h, v, lo, hi, rfl, k, q⟩ := h
  refine ⟨_, (pss_one (ps_ret (pe_and (pe_callB call_isi rfl T.b_isinstance bt_isinstance (pa_cons (pv 0) (pa_cons (pe_bltn (v := .ty "int") rfl T.b_int bt_int rfl) pa_nil))) (pe_and (pe_not (pe_callB call_isi rfl T.b_isinstance bt_isinstance (pa_cons (pv 0) (pa_cons (pe_bltn (v := .ty "bool") rfl T.b_bool bt_bool rfl) pa_nil)))) (pe_one (pe_chain op_le op_le (pv 1) (pv 0) (pv 2))))))), ?_⟩
  obtain ⟨t, ht, kt⟩ := k.isi_int (K := K)
  obtain ⟨u, hu, ku⟩ := k.isi_bool (K := K)
  refine ⟨v, rfl, v, .ty "int", t, .type "int", isIntB v, rfl, .ty "int", ht, kt, isIntB v, rfl, ite2 (fun c => ?_) (fun c => ?_)⟩
  · refine ⟨v, rfl, v, .ty "bool", u, .type "bool", isBlB v, rfl, .ty "bool", hu, ku, isBlB v, rfl, _, rfl, ite2 (fun c1 => ?_) (fun c1 => ?_)⟩
    · obtain ⟨i, rfl⟩ : ∃ i, v = .int i := by
        cases v <;> simp_all [isIntB, isBlB]
      refine ⟨_, rfl, _, rfl, lo, i, rfl, rfl, _, rfl, ite2 (fun c1 => ?_) (fun c1 => ?_)⟩
      · refine ⟨_, rfl, i, hi, rfl, rfl, q _ ?_⟩
        have c2 := of_decide_eq_true c1
        constructor
        · intro d
          exact ⟨i, rfl, c2, of_decide_eq_true d⟩
        · rintro ⟨j, e, d1, d2⟩
          cases e
          exact decide_eq_true d2
      · refine q _ ?_
        constructor
        · intro d
          cases d
        · rintro ⟨j, e, d1, d2⟩
          cases e
          exact absurd (decide_eq_true d1) c1
    · refine q _ ?_
      constructor
      · intro d
        cases d
      · rintro ⟨j, e, d1, d2⟩
        subst e
        exact absurd rfl c1
  · refine q _ ?_
    constructor
    · intro d
      cases d
    · rintro ⟨j, e, d1, d2⟩
      subst e
      exact absurd rfl c
def spIsWeb : Sp := fun vs H Q _ => ∃ h v, vs = [v] ∧ Kn h H v ∧ ∀ (b : Bool), (b = true ↔ IsWeb H v) → Q (.bl b) H
theorem ok__law_is_web (T : Top K mg) : FnOk P w K mg base CX0 2 T.f__law_is_web T.d__law_is_web ["_law_item"] spIsWeb := by
  have G__law_is_number : FnOk P w K mg base CX0 1 T.f__law_is_number T.d__law_is_number ["_law_item", "_law_low", "_law_high"] spIn := ok__law_is_number T
  refine T.D__law_is_web.F.ok sc__law_is_web (fun vs H Q E h => ?_) (fun cdv A outer s H vs Q E hr h => ?_)
  · obtain ⟨h, v, rfl, _⟩ := h
    rfl
  obtain ⟨h, v, rfl, k, q⟩ := h
  refine ⟨_, (pss_cons (ps_if (PW.pt (pw_or (pt_not (pt_val (pe_callB call_isi rfl T.b_isinstance bt_isinstance (pa_cons (pv 0) (pa_cons (pe_bltn (v := .ty "tuple") rfl T.b_tuple bt_tuple rfl) pa_nil))))) (pw_or (pt_cmpR op_lt (pe_callB call_len_seq rfl T.b_len bt_len (pa_cons (pv 0) pa_nil)) pe_int (nomark _)) (pw_or1 (pt_cmpR op_gt (pe_callB call_len_seq rfl T.b_len bt_len (pa_cons (pv 0) pa_nil)) pe_int (nomark _))))))
      (pss_one (ps_ret pe_bl))
      pss_nil)
    (pss_cons (ps_for PassesOwn.never rfl (pi_tup (pv 0)) (pg_name (i := 1) sc__law_is_web.nd rfl (.inl rfl))
      (pss_cons (ps_if (PW.pt (pw_or (pt_not (pt_val (pe_callB call_isi rfl T.b_isinstance bt_isinstance (pa_cons (pv 1) (pa_cons (pe_bltn (v := .ty "tuple") rfl T.b_tuple bt_tuple rfl) pa_nil))))) (pw_or (pt_cmpR op_lt (pe_callB call_len_seq rfl T.b_len bt_len (pa_cons (pv 1) pa_nil)) pe_int (nomark _)) (pw_or1 (pt_cmpR op_gt (pe_callB call_len_seq rfl T.b_len bt_len (pa_cons (pv 1) pa_nil)) pe_int (nomark _))))))
        (pss_one (ps_ret pe_bl))
        pss_nil)
      (pss_one (ps_for PassesOwn.never rfl (pi_tup (pv 1)) (pg_name (i := 2) sc__law_is_web.nd rfl (.inl rfl))
        (pss_cons (ps_if (PW.pt (pw_or (pt_not (pt_val (pe_callB call_isi rfl T.b_isinstance bt_isinstance (pa_cons (pv 2) (pa_cons (pe_bltn (v := .ty "tuple") rfl T.b_tuple bt_tuple rfl) pa_nil))))) (pw_or (pt_cmpR op_ne (pe_callB call_len_seq rfl T.b_len bt_len (pa_cons (pv 2) pa_nil)) pe_int (nomark _)) (pw_or1 (pt_not (pt_val (pe_call G__law_is_number (hr.mono (by decide)) rfl T.D__law_is_number.g T.D__law_is_number.F.kp T.D__law_is_number.b .nil pass0 (pa_cons (pe_ix ix_tup (pv 2) pe_int (fun _ _ => rfl)) (pa_cons (pe_un un_neg (pe_op op_pow pe_int pe_int)) (pa_cons (pe_op op_pow pe_int pe_int) pa_nil))))))))))
          (pss_one (ps_ret pe_bl))
          pss_nil)
        (pss_one (ps_if (pt_not (pt_val (pe_call G__law_is_number (hr.mono (by decide)) rfl T.D__law_is_number.g T.D__law_is_number.F.kp T.D__law_is_number.b .nil pass0 (pa_cons (pe_ix ix_tup (pv 2) pe_int (fun _ _ => rfl)) (pa_cons pe_int (pa_cons (pe_op op_sub (pe_callB call_len_seq rfl T.b_len bt_len (pa_cons (pv 0) pa_nil)) pe_int) pa_nil))))))
          (pss_one (ps_ret pe_bl))
          pss_nil)))))))
    (pss_one (ps_ret pe_bl)))), ?_⟩
  have bad : ¬ IsWeb H v → Q (.bl false) H := fun ni => q _ ⟨fun d => (nomatch d), fun d => absurd d ni⟩
  obtain ⟨t, ht, kt⟩ := k.isi_tup (K := K)
  -- what the first test decides
  refine ⟨v, rfl, v, .ty "tuple", t, .type "tuple", _, rfl, .ty "tuple", ht, kt, _, rfl, ite2 (fun c => ?_) (fun c => ?_)⟩
  · refine ite2 (fun _ => bad ?_) (fun z => absurd rfl z)
    rintro ⟨ys, e3, z, _⟩
    rw [e3] at c
    cases c
  have c' : (tupOf H v).isSome = true := by
    cases q1 : (tupOf H v).isSome with
    | true => rfl
    | false => exact absurd (by rw [q1]; rfl) c
  obtain ⟨xs, e⟩ := Option.isSome_iff_exists.mp c'
  obtain ⟨a, rfl, ea⟩ := tupOf_some e
  have hS := SqT.of (K := K) ea
  refine ⟨.ref a, rfl, a, xs, rfl, .inr hS, xs.length, 1, rfl, rfl, _, rfl, ite2 (fun c1 => ?_) (fun c1 => ?_)⟩
  · refine ite2 (fun _ => bad ?_) (fun z => absurd rfl z)
    rintro ⟨ys, e3, z, _⟩
    rw [e] at e3
    cases e3
    have := of_decide_eq_true c1
    omega
  refine ⟨.ref a, rfl, a, xs, rfl, .inr hS, xs.length, 120, rfl, rfl, _, rfl, ite2 (fun c2 => ?_) (fun c2 => ?_)⟩
  · refine bad ?_
    rintro ⟨ys, e3, z, _⟩
    rw [e] at e3
    cases e3
    have := of_decide_eq_true c2
    omega
  have z : 1 ≤ xs.length ∧ xs.length ≤ 120 := by
    have d1 : ¬ ((xs.length : Nat) : Int) < 1 := fun d => c1 (decide_eq_true d)
    have d2 : ¬ ((xs.length : Nat) : Int) > 120 := fun d => c2 (decide_eq_true d)
    omega
  have node_no : ∀ x, x ∈ xs → ¬ IsNode H xs.length x → ¬ IsWeb H (.ref a) := by
    rintro x m ni ⟨ys, e3, _, f⟩
    rw [e] at e3
    cases e3
    exact ni (f x m)
  refine ⟨.ref a, rfl, a, rfl, ⟨xs, hS⟩, for_tup (xs := xs) (fun i σ H' => H' = H ∧ (∃ y1 y2, σ = [some (.ref a), y1, y2]) ∧ ∀ x ∈ xs.take i, IsNode H xs.length x) ⟨rfl, ⟨none, none, rfl⟩, fun x m => by simp at m⟩ (fun i σ H' _ p => by rw [p.1]; exact hS) (fun i x σ H' hx p => ?_) (fun σ H' p => ?_)⟩
  · obtain ⟨rfl, ⟨y1, y2, rfl⟩, f⟩ := p
    have mx : x ∈ xs := List.mem_of_getElem? hx
    have kx : Kn h H' x := (k.items e).2 x mx
    obtain ⟨t1, ht1, kt1⟩ := kx.isi_tup (K := K)
    refine ⟨x, rfl, x, .ty "tuple", t1, .type "tuple", _, rfl, .ty "tuple", ht1, kt1, _, rfl, ite2 (fun c => ?_) (fun c => ?_)⟩
    · refine ite2 (fun _ => bad (node_no x mx ?_)) (fun z => absurd rfl z)
      rintro ⟨ys, e3, z, _⟩
      rw [e3] at c
      cases c
    have c' : (tupOf H' x).isSome = true := by
      cases q1 : (tupOf H' x).isSome with
      | true => rfl
      | false => exact absurd (by rw [q1]; rfl) c
    obtain ⟨ys, e1⟩ := Option.isSome_iff_exists.mp c'
    obtain ⟨b, rfl, eb⟩ := tupOf_some e1
    have hB := SqT.of (K := K) eb
    refine ⟨.ref b, rfl, b, ys, rfl, .inr hB, ys.length, 1, rfl, rfl, _, rfl, ite2 (fun c1 => ?_) (fun c1 => ?_)⟩
    · refine ite2 (fun _ => bad (node_no _ mx ?_)) (fun z => absurd rfl z)
      rintro ⟨zs, e3, z, _⟩
      rw [e1] at e3
      cases e3
      have := of_decide_eq_true c1
      omega
    refine ⟨.ref b, rfl, b, ys, rfl, .inr hB, ys.length, 12, rfl, rfl, _, rfl, ite2 (fun c2 => ?_) (fun c2 => ?_)⟩
    · refine bad (node_no _ mx ?_)
      rintro ⟨zs, e3, z, _⟩
      rw [e1] at e3
      cases e3
      have := of_decide_eq_true c2
      omega
    have zy : 1 ≤ ys.length ∧ ys.length ≤ 12 := by
      have d1 : ¬ ((ys.length : Nat) : Int) < 1 := fun d => c1 (decide_eq_true d)
      have d2 : ¬ ((ys.length : Nat) : Int) > 12 := fun d => c2 (decide_eq_true d)
      omega
    have move_no : ∀ x, x ∈ ys → ¬ IsMove H' xs.length x → ¬ IsWeb H' (.ref a) := fun x m ni => node_no _ mx (by
      rintro ⟨zs, e3, _, f⟩
      rw [e1] at e3
      cases e3
      exact ni (f x m))
    refine ⟨.ref b, rfl, b, rfl, ⟨ys, hB⟩, for_tup (xs := ys) (fun j σ H2 => H2 = H' ∧ (∃ y2, σ = [some (.ref a), some (.ref b), y2]) ∧ ∀ x ∈ ys.take j, IsMove H' xs.length x) ⟨rfl, ⟨y2, rfl⟩, fun x m => by simp at m⟩ (fun j σ H2 _ p => by rw [p.1]; exact hB) (fun j y σ H2 hy p => ?_) (fun σ H2 p => ?_)⟩
    · obtain ⟨rfl, ⟨y3, rfl⟩, g⟩ := p
      have my : y ∈ ys := List.mem_of_getElem? hy
      have ky : Kn h H2 y := (kx.items e1).2 y my
      obtain ⟨t2, ht2, kt2⟩ := ky.isi_tup (K := K)
      refine ⟨y, rfl, y, .ty "tuple", t2, .type "tuple", _, rfl, .ty "tuple", ht2, kt2, _, rfl, ite2 (fun c => ?_) (fun c => ?_)⟩
      · refine ite2 (fun _ => bad (move_no y my ?_)) (fun z => absurd rfl z)
        rintro ⟨p1, p2, e3, _⟩
        rw [e3] at c
        cases c
      have c' : (tupOf H2 y).isSome = true := by
        cases q1 : (tupOf H2 y).isSome with
        | true => rfl
        | false => exact absurd (by rw [q1]; rfl) c
      obtain ⟨us, e2⟩ := Option.isSome_iff_exists.mp c'
      obtain ⟨d, rfl, ed⟩ := tupOf_some e2
      have hD := SqT.of (K := K) ed
      refine ⟨.ref d, rfl, d, us, rfl, .inr hD, rfl, _, rfl, ite2 (fun c1 => ?_) (fun c1 => ?_)⟩
      · refine ite2 (fun _ => bad (move_no _ my ?_)) (fun z => absurd rfl z)
        rintro ⟨p1, p2, e3, _⟩
        rw [e2] at e3
        cases e3
        exact absurd c1 (by simp)
      have l2 : us.length = 2 := by
        have d2 : V.int ((us.length : Nat) : Int) = V.int 2 := by
          by_cases dd : V.int ((us.length : Nat) : Int) = V.int 2
          · exact dd
          · exact absurd (by rw [decide_eq_false dd]; rfl) c1
        have := V.int.inj d2
        omega
      obtain ⟨p1, p2, rfl⟩ := two_of l2
      have k1 := (ky.items e2).2 p1 (by simp)
      have k2 := (ky.items e2).2 p2 (by simp)
      refine ⟨.ref d, rfl, d, _, 0, p1, rfl, rfl, hD, atI_nat (j := 0) rfl, 10, 6, rfl, rfl, ⟨by decide, by decide, by decide⟩, 1000000, rfl, 10, 6, rfl, rfl, ⟨by decide, by decide, by decide⟩, h, p1, -1000000, 1000000, rfl, k1, fun b1 h1 => ⟨b1, rfl, ite2 (fun c2 => ?_) (fun c2 => ?_)⟩⟩
      · refine bad (move_no _ my ?_)
        rintro ⟨q1, q2, e3, f1, f2⟩
        rw [e2] at e3
        cases e3
        rw [h1.mpr f1] at c2
        cases c2
      have w1 : IsWI (-1000000) 1000000 p1 := by
        cases b1 with
        | true => exact h1.mp rfl
        | false => exact absurd rfl c2
      refine ⟨.ref d, rfl, d, _, 1, p2, rfl, rfl, hD, atI_nat (j := 1) rfl, .ref a, rfl, a, xs, rfl, .inr hS, xs.length, 1, rfl, rfl, h, p2, 0, (xs.length : Int) - 1, rfl, k2, fun b2 h2 => ⟨b2, rfl, ite2 (fun c3 => ?_) (fun c3 => ?_)⟩⟩
      · refine bad (move_no _ my ?_)
        rintro ⟨q1, q2, e3, f1, f2⟩
        rw [e2] at e3
        cases e3
        rw [h2.mpr f2] at c3
        cases c3
      have w2 : IsWI 0 ((xs.length : Int) - 1) p2 := by
        cases b2 with
        | true => exact h2.mp rfl
        | false => exact absurd rfl c3
      refine ⟨rfl, ⟨_, rfl⟩, fun x m => ?_⟩
      rw [List.take_add_one, hy] at m
      rcases List.mem_append.mp m with m | m
      · exact g x m
      · have ex : x = .ref d := by simpa using m
        rw [ex]
        exact ⟨p1, p2, e2, w1, w2⟩
    · obtain ⟨rfl, ⟨y3, rfl⟩, g⟩ := p
      rw [List.take_length] at g
      refine ⟨rfl, ⟨_, _, rfl⟩, fun x m => ?_⟩
      rw [List.take_add_one, hx] at m
      rcases List.mem_append.mp m with m | m
      · exact f x m
      · have ex : x = .ref b := by simpa using m
        rw [ex]
        exact ⟨ys, e1, zy, g⟩
  · obtain ⟨rfl, _, f⟩ := p
    rw [List.take_length] at f
    exact q _ ⟨fun _ => ⟨xs, e, z, f⟩, fun _ => rfl⟩
end
end K01

set_option Elab.async false
set_option linter.all false
set_option maxRecDepth 100000
set_option maxHeartbeats 4000000
namespace K01
open PySem PySem.Spec PyProof.Rows L2
/-! ### the hand -/
def Hd (h c : Addr) (ns : List Int) (i : Nat) (left seed turn : Int) (H : Hp) : Prop :=
  H h = some (.lst [.ref c, .int i, .int left, .int seed, .int turn]) ∧ c ≠ h ∧ H c = some (.lst (ns.map V.int))
def Hand (h c : Addr) (H : Hp) : Prop := ∃ ns i left seed turn, Hd h c ns i left seed turn H
theorem Hand.isL {h c : Addr} {H : Hp} (a : Hand h c H) : IsL h H := by
  obtain ⟨ns, i, left, seed, turn, e, _⟩ := a
  exact ⟨_, e⟩
theorem Hand.same {h c : Addr} {H H' : Hp} (s : Same H H') (a : Hand h c H) : Hand h c H' := by
  obtain ⟨ns, i, left, seed, turn, e, n, f⟩ := a
  exact ⟨ns, i, left, seed, turn, s _ _ e, n, s _ _ f⟩
theorem Hand.ne {h c f : Addr} {H : Hp} (a : Hand h c H) (n : H f = none) : f ≠ h ∧ f ≠ c := by
  obtain ⟨ns, i, left, seed, turn, e, _, g⟩ := a
  refine ⟨fun z => ?_, fun z => ?_⟩
  · rw [z, e] at n
    cases n
  · rw [z, g] at n
    cases n
theorem Hand.other {h c f : Addr} {H : Hp} {o : HO} (a : Hand h c H) (n : f ≠ h ∧ f ≠ c) : Hand h c (upd H f o) := by
  obtain ⟨ns, i, left, seed, turn, e, m, g⟩ := a
  exact ⟨ns, i, left, seed, turn, by rw [upd_ne n.1.symm]; exact e, m, by rw [upd_ne n.2.symm]; exact g⟩
theorem But.back {h f : Addr} {H H' : Hp} (b : But h H H') (nh : f ≠ h) (n : H' f = none) : H f = none := by
  cases q : H f with
  | none => rfl
  | some o =>
    rw [b f o nh q] at n
    cases n
theorem But.at_new {h f : Addr} {H H' : Hp} {o : HO} (b : But h H H') (n : H f = none) : But h H (upd H' f o) := fun a u na e => by
  rw [upd_ne (ne_of_none e n)]
  exact b a u na e
/-! tuples stay -/
def Tu (H H' : Hp) : Prop := ∀ a xs, H a = some (.tup xs) → H' a = some (.tup xs)
theorem Tu.trans {H H1 H2 : Hp} (a : Tu H H1) (b : Tu H1 H2) : Tu H H2 := fun c xs e => b c xs (a c xs e)
theorem Tu.but {h : Addr} {H H' : Hp} (l : IsL h H) (b : But h H H') : Tu H H' := fun a xs e => b a _ (l.ne e (fun _ z => nomatch z)) e
theorem Tu.lst {H : Hp} {f : Addr} {xs : List V} {o : HO} (e : H f = some (.lst xs)) : Tu H (upd H f o) := fun a ys q => by
  rw [upd_ne (fun z => by rw [z, e] at q; cases q)]
  exact q
theorem Tu.new {H : Hp} {f : Addr} {o : HO} (e : H f = none) : Tu H (upd H f o) := fun a ys q => same_upd e a _ q
theorem Tu.same {H H' : Hp} (s : Same H H') : Tu H H' := fun a ys q => s a _ q
theorem Tu.of {H H' : Hp} (t : Tu H H') {v : V} {xs : List V} (e : tupOf H v = some xs) : tupOf H' v = some xs := by
  obtain ⟨a, rfl, q⟩ := tupOf_some e
  exact tupOf_ref (t a xs q)
theorem Tu.move {H H' : Hp} (t : Tu H H') {n : Int} {v : V} (m : IsMove H n v) : IsMove H' n v := by
  obtain ⟨x, y, e, r⟩ := m
  exact ⟨x, y, t.of e, r⟩
theorem Tu.node {H H' : Hp} (t : Tu H H') {n : Int} {v : V} (m : IsNode H n v) : IsNode H' n v := by
  obtain ⟨xs, e, z, f⟩ := m
  exact ⟨xs, t.of e, z, fun x m => t.move (f x m)⟩
theorem Tu.web {H H' : Hp} (t : Tu H H') {v : V} (m : IsWeb H v) : IsWeb H' v := by
  obtain ⟨xs, e, z, f⟩ := m
  exact ⟨xs, t.of e, z, fun x m => t.node (f x m)⟩
theorem IsMove.kn {h : Addr} {H : Hp} {n : Int} {v : V} (m : IsMove H n v) : Kn h H v := by
  obtain ⟨x, y, e, ⟨i, rfl, _⟩, ⟨j, rfl, _⟩⟩ := m
  obtain ⟨a, rfl, q⟩ := tupOf_some e
  refine .tup a _ q (by show 2 ≤ 1000; decide) fun x m => ?_
  rcases List.mem_cons.mp m with rfl | m
  · exact .int _
  · rw [List.mem_singleton.mp m]
    exact .int _
theorem IsNode.kn {h : Addr} {H : Hp} {n : Int} {v : V} (m : IsNode H n v) : Kn h H v := by
  obtain ⟨xs, e, z, f⟩ := m
  obtain ⟨a, rfl, q⟩ := tupOf_some e
  exact .tup a _ q (by omega) fun x m => (f x m).kn
theorem IsWeb.kn {h : Addr} {H : Hp} {v : V} (m : IsWeb H v) : Kn h H v := by
  obtain ⟨xs, e, z, f⟩ := m
  obtain ⟨a, rfl, q⟩ := tupOf_some e
  exact .tup a _ q (by omega) fun x m => (f x m).kn
theorem atI_mem {xs : List V} {r : Int} (h0 : 0 ≤ r) (h1 : r < xs.length) : ∃ v, v ∈ xs ∧ atI xs r = some v := by
  have h : r.toNat < xs.length := by omega
  have e : ((r.toNat : Nat) : Int) = r := Int.toNat_of_nonneg h0
  refine ⟨xs[r.toNat], List.getElem_mem h, ?_⟩
  have := atI_nat (xs := xs) (j := r.toNat) (List.getElem?_eq_getElem h)
  rw [e] at this
  exact this
theorem Hd.put {h c : Addr} {ns : List Int} {i i' : Nat} {left seed turn left' seed' turn' : Int} {H : Hp} (a : Hd h c ns i left seed turn H) :
    Hd h c ns i' left' seed' turn' (upd H h (.lst [.ref c, .int i', .int left', .int seed', .int turn'])) :=
  ⟨upd_same, a.2.1, by rw [upd_ne a.2.1]; exact a.2.2⟩
theorem but_upd {h : Addr} {H : Hp} {o : HO} : But h H (upd H h o) := fun a u n e => by rw [upd_ne n]; exact e
section
variable {P : Program} {w : World} {K : PySem.W.Frag} {mg : Str → Option Value} {base : Heap}
def spHand (K : PySem.W.Frag) : Sp := fun vs H Q _ => ∃ (a : Addr) (ns : List Int), vs = [.ref a] ∧ SqL K H a (ns.map V.int) ∧ ∀ h c H', Same H H' → Hand h c H' → H h = none → Q (.ref h) H'
theorem ok__law_hand (T : Top K mg) : FnOk P w K mg base CX0 1 T.f__law_hand T.d__law_hand ["_law_script"] (spHand K) := by
  refine T.D__law_hand.F.ok sc__law_hand (fun vs H Q E h => ?_) (fun cdv A outer s H vs Q E hr h => ?_)
  · obtain ⟨a, ns, rfl, _⟩ := h
    rfl
  obtain ⟨a, ns, rfl, hS, q⟩ := h
  refine ⟨_, (pss_one (ps_ret (pe_lst (pa_cons (pe_callTy call_list_of rfl T.b_list bt_list (pa_cons (pv 0) pa_nil)) (pa_cons pe_int (pa_cons pe_int (pa_cons pe_int (pa_cons pe_int pa_nil)))))))), ?_⟩
  refine ⟨.ref a, rfl, a, _, rfl, .inl hS, fun l hl => ⟨(by show 5 ≤ sizeLine; decide), fun h hh => ?_⟩⟩
  have s1 : Same H (upd H l (.lst (ns.map V.int))) := same_upd hl
  have n : l ≠ h := fun z => by
    rw [z, upd_same] at hh
    cases hh
  refine q h l _ (s1.trans (same_upd hh)) ⟨ns, 0, 0, 0, 0, upd_same, n, by rw [upd_ne n]; exact upd_same⟩ ?_
  rw [upd_ne n.symm] at hh
  exact hh
def spDraw (n : Int) : Sp := fun vs H Q _ => ∃ h c size, vs = [.ref h, .int size] ∧ 0 < size ∧ size ≤ n ∧ Hand h c H ∧ ∀ r H', 0 ≤ r → r < size → But h H H' → Hand h c H' → Q (.int r) H'
theorem none_left {f : Addr} {fd : FuncData} {ps : List Str} : FnOk P w K mg base CX0 0 f fd ps (spDraw 0) := by
  have no : ∀ vs H Q E, ¬ spDraw 0 vs H Q E := fun vs H Q E h => by
    obtain ⟨a, _, size, _, h1, h2, _⟩ := h
    omega
  exact ⟨fun vs H Q E h => absurd h (no vs H Q E), fun A outer s H args us vs Q E _ _ _ _ h => absurd h (no vs H Q E)⟩
theorem draw_step (T : Top K mg) {k : Nat} {lim lim' : Int} (G__law_draw : FnOk P w K mg base CX0 k T.f__law_draw T.d__law_draw ["_law_hand_here", "_law_size"] (spDraw lim'))
    (hl : lim ≤ 1000000000) (hrec : ∀ s, 1000000 < s → s ≤ lim → s / 1000000 + 1 ≤ lim') :
    FnOk P w K mg base CX0 (k + 1) T.f__law_draw T.d__law_draw ["_law_hand_here", "_law_size"] (spDraw lim) := by
  refine T.D__law_draw.F.ok sc__law_draw (fun vs H Q E h => ?_) (fun cdv A outer s H vs Q E hr h => ?_)
  · obtain ⟨h, c, size, rfl, _⟩ := h
    rfl
  obtain ⟨h, c, size, rfl, hpos, hlim, ⟨ns, i, left, seed, turn, hd⟩, q⟩ := h
  refine ⟨_, (pss_cons (ps_if (pt_cmpR op_gt (pe_ix ix_list (pv 0) pe_int (fun _ _ => rfl)) pe_int (nomark _))
      (pss_cons (ps_set (i := 2) sc__law_draw.nd rfl (.inl rfl) (pe_op op_mod (pe_callTy call_int1 rfl T.b_int bt_int (pa_cons (pe_ix ix_list (pv 0) pe_int (fun _ _ => rfl)) pa_nil)) (pv 1)))
      (pss_cons (ps_asg (pe_op op_fdiv (pe_ix ix_list (pv 0) pe_int (fun _ _ => rfl)) (pv 1)) (pg_sub (pv 0) pe_int set_list))
      (pss_one (ps_ret (pv 2)))))
      pss_nil)
    (pss_cons (ps_set (i := 3) sc__law_draw.nd rfl (.inl rfl) pe_int)
    (C8.pss_cut (ps_if (pt_cmpR op_lt (pe_ix ix_list (pv 0) pe_int (fun _ _ => rfl)) (pe_callB call_len_seq rfl T.b_len bt_len (pa_cons (pe_ix ix_list (pv 0) pe_int (fun _ _ => rfl)) pa_nil)) (nomark _))
      (pss_cons (ps_set (i := 3) sc__law_draw.nd rfl (.inl rfl) (pe_ix ix_list (pe_ix ix_list (pv 0) pe_int (fun _ _ => rfl)) (pe_ix ix_list (pv 0) pe_int (fun _ _ => rfl)) (fun _ _ => rfl)))
      (pss_one (ps_asg (pe_op op_add (pe_ix ix_list (pv 0) pe_int (fun _ _ => rfl)) pe_int) (pg_sub (pv 0) pe_int set_list))))
      pss_nil)
    (pss_cons (ps_if (pt_cmpR op_ge (pe_callB call_abs rfl T.b_abs bt_abs (pa_cons (pv 3) pa_nil)) (pe_op op_pow pe_int pe_int) (nomark _))
      (pss_cons (ps_asg (pe_op op_fdiv (pe_callB call_abs rfl T.b_abs bt_abs (pa_cons (pv 3) pa_nil)) (pv 1)) (pg_sub (pv 0) pe_int set_list))
      (pss_one (ps_ret (pe_op op_mod (pe_callTy call_int1 rfl T.b_int bt_int (pa_cons (pe_callB call_abs rfl T.b_abs bt_abs (pa_cons (pv 3) pa_nil)) pa_nil)) (pv 1)))))
      pss_nil)
    (C8.pss_cut (ps_asg (pe_op op_add (pe_ix ix_list (pv 0) pe_int (fun _ _ => rfl)) pe_int) (pg_sub (pv 0) pe_int set_list))
    (C8.pss_cut (ps_set (i := 4) sc__law_draw.nd rfl (.inl rfl) (pe_op op_mod (pe_callTy call_int1 rfl T.b_int bt_int (pa_cons (pe_op op_add (pe_op op_add (pe_op op_add (pe_op op_mul (pe_ix ix_list (pv 0) pe_int (fun _ _ => rfl)) pe_int) (pe_op op_mul (pv 3) pe_int)) (pe_op op_mul (pe_ix ix_list (pv 0) pe_int (fun _ _ => rfl)) pe_int)) pe_int) pa_nil)) pe_int))
    (C8.pss_cut (ps_set (i := 4) sc__law_draw.nd rfl (.inl rfl) (pe_op op_mod (pe_callTy call_int1 rfl T.b_int bt_int (pa_cons (pe_op op_add (pe_op op_mul (pe_op op_mod (pe_op op_mul (pv 4) (pv 4)) pe_int) (pv 4)) (pv 3)) pa_nil)) pe_int))
    (C8.pss_cut (ps_asg (pv 4) (pg_sub (pv 0) pe_int set_list))
    (pss_cons (ps_if (pt_cmpR op_gt (pv 1) (pe_op op_pow pe_int pe_int) (nomark _))
      (pss_one (ps_ret (pe_op op_mod (pe_callTy call_int1 rfl T.b_int bt_int (pa_cons (pe_op op_add (pe_op op_mod (pe_op op_fdiv (pv 4) pe_int) (pe_op op_pow pe_int pe_int)) (pe_op op_mul (pe_op op_pow pe_int pe_int) (pe_call G__law_draw (hr.mono (by omega)) rfl T.D__law_draw.g T.D__law_draw.F.kp T.D__law_draw.b .nil pass0 (pa_cons (pv 0) (pa_cons (pe_op op_add (pe_op op_fdiv (pv 1) (pe_op op_pow pe_int pe_int)) pe_int) pa_nil))))) pa_nil)) (pv 1))))
      pss_nil)
    (pss_one (ps_ret (pe_op op_mod (pe_op op_fdiv (pv 4) pe_int) (pv 1))))))))))))), ?_⟩
  have hdiv : CDiv 0 size := ⟨hpos, by omega⟩
  have hL : SqL K H h _ := SqL.of hd.1
  have q' : ∀ (x : Int) H', But h H H' → Hand h c H' → Q (.int (x % size)) H' := fun x H' b1 a1 => q _ _ (Int.emod_nonneg _ (by omega)) (Int.emod_lt_of_pos _ hpos) b1 a1
  -- if hand[2] > 0
  refine ⟨.ref h, rfl, h, _, 2, .int left, rfl, rfl, hL, atI_nat (j := 2) rfl, left, 0, rfl, rfl, _, rfl, ite2 (fun _ => ?_) (fun _ => ?_)⟩
  · refine ⟨.ref h, rfl, h, _, 2, .int left, rfl, rfl, hL, atI_nat (j := 2) rfl, .inl ⟨left, rfl, .int size, rfl, left, size, rfl, rfl, hpos, ?_⟩⟩
    refine ⟨.ref h, rfl, h, _, 2, .int left, rfl, rfl, hL, atI_nat (j := 2) rfl, .int size, rfl, left, size, rfl, rfl, ⟨hpos, by omega⟩, .ref h, rfl, h, _, 2, 2, rfl, rfl, hd.1, rfl, _, rfl, ?_⟩
    exact q' _ _ but_upd ⟨ns, i, left / size, seed, turn, hd.put⟩
  -- the cell
  refine ⟨fun σ H' => ∃ (cell : Int) (i' : Nat), σ = [some (.ref h), some (.int size), none, some (.int cell), none] ∧ But h H H' ∧ Hd h c ns i' left seed turn H', ?_, ?_⟩
  · refine ⟨.ref h, rfl, h, _, 1, .int i, rfl, rfl, hL, atI_nat (j := 1) rfl, .ref h, rfl, h, _, 0, .ref c, rfl, rfl, hL, atI_nat (j := 0) rfl, c, _, rfl, .inl (SqL.of hd.2.2), i, _, rfl, rfl, _, rfl, ite2 (fun c1 => ?_) (fun c1 => ?_)⟩
    · have hi : i < ns.length := by
        have := of_decide_eq_true c1
        rw [List.length_map] at this
        omega
      refine ⟨.ref h, rfl, h, _, 0, .ref c, rfl, rfl, hL, atI_nat (j := 0) rfl, .ref h, rfl, h, _, 1, .int i, rfl, rfl, hL, atI_nat (j := 1) rfl, c, _, i, .int ns[i], rfl, rfl, SqL.of hd.2.2, atI_nat (j := i) (by rw [List.getElem?_map, List.getElem?_eq_getElem hi]; rfl), ?_⟩
      refine ⟨.ref h, rfl, h, _, 1, .int i, rfl, rfl, hL, atI_nat (j := 1) rfl, i, 1, rfl, rfl, .ref h, rfl, h, _, 1, 1, rfl, rfl, hd.1, rfl, ?_⟩
      exact ⟨ns[i], i + 1, rfl, but_upd, hd.put⟩
    · exact ⟨0, i, rfl, But.refl h H, hd⟩
  rintro σ H1 ⟨cell, i', rfl, b1, hd1⟩
  have hL1 : SqL K H1 h _ := SqL.of hd1.1
  refine ⟨.int cell, rfl, cell, rfl, 10, 18, rfl, rfl, ⟨by decide, by decide, by decide⟩, _, _, rfl, rfl, _, rfl, ite2 (fun _ => ?_) (fun _ => ?_)⟩
  · refine ⟨.int cell, rfl, cell, rfl, .int size, rfl, _, size, rfl, rfl, ⟨hpos, by omega⟩, .ref h, rfl, h, _, 2, 2, rfl, rfl, hd1.1, rfl, .int cell, rfl, cell, rfl, .inl ⟨_, rfl, .int size, rfl, _, size, rfl, rfl, hpos, ?_⟩⟩
    exact q' _ _ (b1.trans but_upd) ⟨ns, i', _, seed, turn, hd1.put⟩
  -- hand[4] = hand[4] + 1
  refine ⟨fun σ H' => ∃ (turn' : Int), σ = [some (.ref h), some (.int size), none, some (.int cell), none] ∧ But h H H' ∧ Hd h c ns i' left seed turn' H', ?_, ?_⟩
  · refine ⟨.ref h, rfl, h, _, 4, .int turn, rfl, rfl, hL1, atI_nat (j := 4) rfl, turn, 1, rfl, rfl, .ref h, rfl, h, _, 4, 4, rfl, rfl, hd1.1, rfl, ?_⟩
    exact ⟨turn + 1, rfl, b1.trans but_upd, hd1.put⟩
  rintro σ H2 ⟨turn', rfl, b2, hd2⟩
  have hL2 : SqL K H2 h _ := SqL.of hd2.1
  -- mixed
  refine ⟨fun σ H' => ∃ (m : Int), σ = [some (.ref h), some (.int size), none, some (.int cell), some (.int m)] ∧ (0 ≤ m ∧ m < 2147483563) ∧ H' = H2, ?_, ?_⟩
  · refine ⟨.ref h, rfl, h, _, 3, .int seed, rfl, rfl, hL2, atI_nat (j := 3) rfl, seed, 40014, rfl, rfl, .inr ⟨by decide, by decide⟩, .int cell, rfl, cell, 69069, rfl, rfl, .inr ⟨by decide, by decide⟩, _, _, rfl, rfl,
      .ref h, rfl, h, _, 4, .int turn', rfl, rfl, hL2, atI_nat (j := 4) rfl, turn', 22193, rfl, rfl, .inr ⟨by decide, by decide⟩, _, _, rfl, rfl, _, _, rfl, rfl, .inl ⟨_, rfl, _, 2147483563, rfl, rfl, (by show (0 : Int) < 2147483563; decide), ?_⟩⟩
    exact ⟨_, rfl, ⟨Int.emod_nonneg _ (by decide), Int.emod_lt_of_pos _ (by decide)⟩, rfl⟩
  rintro σ H2' ⟨m, rfl, ⟨m0, m1⟩, rfl⟩
  refine ⟨fun σ H' => ∃ (m' : Int), σ = [some (.ref h), some (.int size), none, some (.int cell), some (.int m')] ∧ H' = H2', ?_, ?_⟩
  · refine ⟨.int m, rfl, .int m, rfl, m, m, rfl, rfl, .inl ⟨by omega, by omega⟩, _, 2147483399, rfl, rfl, (by show (0 : Int) < 2147483399; decide), .int m, rfl, _, m, rfl, rfl, .inr ⟨by omega, by omega⟩, .int cell, rfl, _, cell, rfl, rfl, .inl ⟨_, rfl, _, 2147483399, rfl, rfl, (by show (0 : Int) < 2147483399; decide), ?_⟩⟩
    exact ⟨_, rfl, rfl⟩
  rintro σ H2'' ⟨m', rfl, rfl⟩
  -- hand[3] = mixed
  refine ⟨fun σ H' => σ = [some (.ref h), some (.int size), none, some (.int cell), some (.int m')] ∧ But h H H' ∧ Hd h c ns i' left m' turn' H', ?_, ?_⟩
  · refine ⟨.int m', rfl, .ref h, rfl, h, _, 3, 3, rfl, rfl, hd2.1, rfl, ?_⟩
    exact ⟨rfl, b2.trans but_upd, hd2.put⟩
  rintro σ H3 ⟨rfl, b3, hd3⟩
  -- if size > 10 ** 6
  refine ⟨.int size, rfl, 10, 6, rfl, rfl, ⟨by decide, by decide, by decide⟩, size, _, rfl, rfl, _, rfl, ite2 (fun c1 => ?_) (fun c1 => ?_)⟩
  · have big : 1000000 < size := of_decide_eq_true c1
    have small := hrec size big hlim
    refine ⟨.int m', rfl, m', 32, rfl, rfl, ⟨by decide, by decide⟩, 10, 6, rfl, rfl, ⟨by decide, by decide, by decide⟩, _, _, rfl, rfl, (by show (0 : Int) < 10 ^ 6; decide), 10, 6, rfl, rfl, ⟨by decide, by decide, by decide⟩,
      .ref h, rfl, .int size, rfl, 10, 6, rfl, rfl, ⟨by decide, by decide, by decide⟩, size, _, rfl, rfl, ⟨by decide, by decide⟩, _, 1, rfl, rfl, h, c, size / 1000000 + 1, rfl, ?_, small, ⟨_, _, _, _, _, hd3⟩, fun r H4 r0 r1 b4 hd4 => ?_⟩
    · have := Int.ediv_nonneg (a := size) (b := 1000000) (by omega) (by decide)
      omega
    · refine ⟨_, r, rfl, rfl, .inl ⟨by decide, by decide⟩, _, _, rfl, rfl, .inl ⟨_, rfl, .int size, rfl, _, size, rfl, rfl, hpos, ?_⟩⟩
      exact q' _ _ (b3.trans b4) hd4
  · refine ⟨.int m', rfl, m', 32, rfl, rfl, ⟨by decide, by decide⟩, .int size, rfl, _, size, rfl, rfl, hpos, ?_⟩
    exact q' _ _ b3 ⟨_, _, _, _, _, hd3⟩
theorem ok_draw1 (T : Top K mg) : FnOk P w K mg base CX0 1 T.f__law_draw T.d__law_draw ["_law_hand_here", "_law_size"] (spDraw 1000000) :=
  draw_step T none_left (by decide) (fun s h1 h2 => by omega)
theorem ok_draw (T : Top K mg) : FnOk P w K mg base CX0 2 T.f__law_draw T.d__law_draw ["_law_hand_here", "_law_size"] (spDraw 1000000000) :=
  draw_step T (ok_draw1 T) (by decide) (fun s h1 h2 => by
    have : s / 1000000 ≤ 1000000000 / 1000000 := Int.ediv_le_ediv (by decide) h2
    have : (1000000000 : Int) / 1000000 = 1000 := by decide
    omega)
end
end K01

set_option Elab.async false
set_option linter.all false
set_option maxRecDepth 100000
set_option maxHeartbeats 4000000
namespace K01
open PySem PySem.Spec PyProof.Rows L2
section
variable {P : Program} {w : World} {K : PySem.W.Frag} {mg : Str → Option Value} {base : Heap}
def spWebD : Sp := fun vs H Q _ => ∃ h c most, vs = [.ref h, .int most] ∧ 1 ≤ most ∧ most ≤ 100 ∧ Hand h c H ∧ ∀ v H', But h H H' → Hand h c H' → IsWeb H' v → Q v H'
theorem ok__law_web (T : Top K mg) : FnOk P w K mg base CX0 3 T.f__law_web T.d__law_web ["_law_hand_here", "_law_most"] spWebD := by
  have G__law_draw : FnOk P w K mg base CX0 2 T.f__law_draw T.d__law_draw ["_law_hand_here", "_law_size"] (spDraw 1000000000) := ok_draw T
  refine T.D__law_web.F.ok sc__law_web (fun vs H Q E h => ?_) (fun cdv A outer s H vs Q E hr h => ?_)
  · obtain ⟨h, c, most, rfl, _⟩ := h
    rfl
  obtain ⟨h, c, most, rfl, l1, l2, a0, q⟩ := h
  refine ⟨_, (C8.pss_cut (ps_set (i := 2) sc__law_web.nd rfl (.inl rfl) (pe_op op_add pe_int (pe_call G__law_draw (hr.mono (by omega)) rfl T.D__law_draw.g T.D__law_draw.F.kp T.D__law_draw.b .nil pass0 (pa_cons (pv 0) (pa_cons (pv 1) pa_nil)))))
    (C8.pss_cut (ps_set (i := 3) sc__law_web.nd rfl (.inl rfl) (pe_ix ix_list (pe_lst (pa_cons pe_int (pa_cons pe_int (pa_cons pe_int (pa_cons (pe_op op_add (pe_op op_mul pe_int (pe_op op_pow pe_int pe_int)) pe_int) pa_nil))))) (pe_call G__law_draw (hr.mono (by omega)) rfl T.D__law_draw.g T.D__law_draw.F.kp T.D__law_draw.b .nil pass0 (pa_cons (pv 0) (pa_cons pe_int pa_nil))) (fun _ _ => rfl)))
    (pss_cons (ps_set (i := 4) sc__law_web.nd rfl (.inl rfl) (pe_lst pa_nil))
    (pss_cons (ps_for PassesOwn.never rfl (pi_range1 rfl T.b_range (pa_cons (pv 2) pa_nil)) (pg_name (i := 5) sc__law_web.nd rfl (.inl rfl))
      (pss_cons (ps_set (i := 6) sc__law_web.nd rfl (.inl rfl) (pe_lst pa_nil))
      (C8.pss_cut (ps_set (i := 7) sc__law_web.nd rfl (.inl rfl) (pe_ix ix_list (pe_lst (pa_cons (pe_op op_add pe_int (pe_call G__law_draw (hr.mono (by omega)) rfl T.D__law_draw.g T.D__law_draw.F.kp T.D__law_draw.b .nil pass0 (pa_cons (pv 0) (pa_cons pe_int pa_nil)))) (pa_cons (pe_op op_add pe_int (pe_call G__law_draw (hr.mono (by omega)) rfl T.D__law_draw.g T.D__law_draw.F.kp T.D__law_draw.b .nil pass0 (pa_cons (pv 0) (pa_cons pe_int pa_nil)))) pa_nil))) (pe_callTy call_int1 rfl T.b_int bt_int (pa_cons (pe_cmpR op_eq (pe_call G__law_draw (hr.mono (by omega)) rfl T.D__law_draw.g T.D__law_draw.F.kp T.D__law_draw.b .nil pass0 (pa_cons (pv 0) (pa_cons pe_int pa_nil))) pe_int (nomark _)) pa_nil)) (fun _ _ => rfl)))
      (pss_cons (ps_for PassesOwn.never rfl (pi_range1 rfl T.b_range (pa_cons (pv 7) pa_nil)) (pg_name (i := 8) sc__law_web.nd rfl (.inl rfl))
        (pss_one (ps_expr (pe_bm PySem.F.plainAttrs_list PySem.F.slot_list_append PySem.F.type_list_append mt_append (pv 6) (pa_cons (pe_tup (pa_cons (pe_op op_sub (pe_call G__law_draw (hr.mono (by omega)) rfl T.D__law_draw.g T.D__law_draw.F.kp T.D__law_draw.b .nil pass0 (pa_cons (pv 0) (pa_cons (pv 3) pa_nil))) (pe_op op_fdiv (pv 3) pe_int)) (pa_cons (pe_call G__law_draw (hr.mono (by omega)) rfl T.D__law_draw.g T.D__law_draw.F.kp T.D__law_draw.b .nil pass0 (pa_cons (pv 0) (pa_cons (pv 2) pa_nil))) pa_nil))) pa_nil)))))
      (pss_one (ps_expr (pe_bm PySem.F.plainAttrs_list PySem.F.slot_list_append PySem.F.type_list_append mt_append (pv 4) (pa_cons (pe_tupleOf rfl T.b_tuple (pv 6)) pa_nil))))))))
    (pss_one (ps_ret (pe_tupleOf rfl T.b_tuple (pv 4)))))))), ?_⟩
  -- many
  refine ⟨fun σ H' => ∃ many : Int, σ = [some (.ref h), some (.int most), some (.int many), none, none, none, none, none, none] ∧ (1 ≤ many ∧ many ≤ most) ∧ But h H H' ∧ Hand h c H', ?_, ?_⟩
  · refine ⟨.ref h, rfl, .int most, rfl, h, c, most, rfl, by omega, by omega, a0, fun r H1 r0 r1 b1 a1 => ⟨1, r, rfl, rfl, ?_⟩⟩
    exact ⟨1 + r, rfl, by omega, b1, a1⟩
  rintro σ H1 ⟨many, rfl, hm, b1, a1⟩
  -- size
  refine ⟨fun σ H' => ∃ size : Int, σ = [some (.ref h), some (.int most), some (.int many), some (.int size), none, none, none, none, none] ∧ (size = 3 ∨ size = 7 ∨ size = 2000001) ∧ But h H H' ∧ Hand h c H', ?_, ?_⟩
  · refine ⟨10, 6, rfl, rfl, ⟨by decide, by decide, by decide⟩, 2, _, rfl, rfl, .inl ⟨by decide, by decide⟩, _, 1, rfl, rfl, (by show 4 ≤ sizeLine; decide), fun p hp => ?_⟩
    refine ⟨.ref h, rfl, h, c, 4, rfl, by decide, by decide, a1.same (same_upd hp), fun r H2 r0 r1 b2 a2 => ?_⟩
    have np := (a1.ne hp).1
    have ep : H2 p = some (.lst [.int 3, .int 7, .int 7, .int 2000001]) := b2 p _ np upd_same
    obtain ⟨v, mv, ev⟩ := atI_mem (xs := [V.int 3, .int 7, .int 7, .int 2000001]) r0 r1
    refine ⟨p, _, r, v, rfl, rfl, SqL.of ep, ev, ?_⟩
    have bb : But h H H2 := b1.trans ((But.of (same_upd hp)).trans b2)
    rcases List.mem_cons.mp mv with rfl | mv
    · exact ⟨3, rfl, by omega, bb, a2⟩
    rcases List.mem_cons.mp mv with rfl | mv
    · exact ⟨7, rfl, by omega, bb, a2⟩
    rcases List.mem_cons.mp mv with rfl | mv
    · exact ⟨7, rfl, by omega, bb, a2⟩
    · rw [List.mem_singleton.mp mv]
      exact ⟨2000001, rfl, by omega, bb, a2⟩
  rintro σ H2 ⟨size, rfl, hs, b2, a2⟩
  -- found
  refine ⟨Nat.zero_le _, fun f hf => ?_⟩
  obtain ⟨nfh, nfc⟩ := a2.ne hf
  have Hf : H f = none := b2.back nfh hf
  have l0 := a0.isL
  -- the nodes
  refine ⟨.int many, rfl, many, rfl, by omega, by omega, for_range (n := many.toNat) (fun i σ H' => (∃ y5 y6 y7 y8, σ = [some (.ref h), some (.int most), some (.int many), some (.int size), some (.ref f), y5, y6, y7, y8]) ∧ But h H H' ∧ Hand h c H' ∧ ∃ xs, H' f = some (.lst xs) ∧ xs.length = i ∧ ∀ x ∈ xs, IsNode H' many x)
    ⟨⟨_, _, _, _, rfl⟩, b2.at_new Hf, a2.other ⟨nfh, nfc⟩, [], upd_same, rfl, fun x m => by cases m⟩ (fun i σ H3 hi p => ?_) (fun σ H3 p => ?_)⟩
  · obtain ⟨⟨y5, y6, y7, y8, rfl⟩, b3, a3, xs, ef, lx, fx⟩ := p
    -- moves
    refine ⟨Nat.zero_le _, fun g hg => ?_⟩
    obtain ⟨ngh, ngc⟩ := a3.ne hg
    have Hg : H g = none := b3.back ngh hg
    have ngf : g ≠ f := fun z => by
      rw [z, ef] at hg
      cases hg
    have b4 : But h H (upd H3 g (.lst [])) := b3.at_new Hg
    have a4 : Hand h c (upd H3 g (.lst [])) := a3.other ⟨ngh, ngc⟩
    have ef4 : (upd H3 g (.lst [])) f = some (.lst xs) := by
      rw [upd_ne ngf.symm]
      exact ef
    have fx4 : ∀ x ∈ xs, IsNode (upd H3 g (.lst [])) many x := fun x m => (Tu.new hg).node (fx x m)
    have eg4 : (upd H3 g (.lst [])) g = some (.lst []) := upd_same
    -- some
    refine ⟨fun σ H' => ∃ k : Int, σ = [some (.ref h), some (.int most), some (.int many), some (.int size), some (.ref f), some (.int (0 + (i : Int))), some (.ref g), some (.int k), y8] ∧ (1 ≤ k ∧ k ≤ 12) ∧ But h H H' ∧ Hand h c H' ∧ H' f = some (.lst xs) ∧ (∀ x ∈ xs, IsNode H' many x) ∧ H' g = some (.lst []), ?_, ?_⟩
    · refine ⟨.ref h, rfl, h, c, 3, rfl, by decide, by decide, a4, fun r H5 r0 r1 b5 a5 => ⟨1, r, rfl, rfl, .ref h, rfl, h, c, 9, rfl, by decide, by decide, a5, fun r2 H6 r20 r21 b6 a6 => ⟨4, r2, rfl, rfl, (by show 2 ≤ sizeLine; decide), fun p hp => ?_⟩⟩⟩
      have np := (a6.ne hp).1
      refine ⟨.ref h, rfl, h, c, 8, rfl, by decide, by decide, a6.same (same_upd hp), fun r3 H7 r30 r31 b7 a7 => ?_⟩
      have ep : H7 p = some (.lst [.int (1 + r), .int (4 + r2)]) := b7 p _ np upd_same
      have c4 : But h (upd H3 g (.lst [])) H7 := b5.trans (b6.trans ((But.of (same_upd hp)).trans b7))
      have t4 := Tu.but a4.isL c4
      refine ⟨rfl, .inr ⟨_, rfl, ?_⟩⟩
      have ends : ∀ k : Int, (1 ≤ k ∧ k ≤ 12) → ∃ k' : Int, ([some (.ref h), some (.int most), some (.int many), some (.int size), some (.ref f), some (.int (0 + (i : Int))), some (.ref g), some (.int k), y8] : L2.St) = [some (.ref h), some (.int most), some (.int many), some (.int size), some (.ref f), some (.int (0 + (i : Int))), some (.ref g), some (.int k'), y8] ∧ (1 ≤ k' ∧ k' ≤ 12) ∧ But h H H7 ∧ Hand h c H7 ∧ H7 f = some (.lst xs) ∧ (∀ x ∈ xs, IsNode H7 many x) ∧ H7 g = some (.lst []) :=
        fun k hk => ⟨k, rfl, hk, b4.trans c4, a7, c4 f _ nfh ef4, fun x m => t4.node (fx4 x m), c4 g _ ngh eg4⟩
      by_cases e : V.int r3 = V.int 7
      · rw [decide_eq_true e]
        exact ⟨p, [.int (1 + r), .int (4 + r2)], 1, .int (4 + r2), rfl, rfl, SqL.of ep, atI_nat (j := 1) rfl, ends (4 + r2) (by omega)⟩
      · rw [decide_eq_false e]
        exact ⟨p, [.int (1 + r), .int (4 + r2)], 0, .int (1 + r), rfl, rfl, SqL.of ep, atI_nat (j := 0) rfl, ends (1 + r) (by omega)⟩
    rintro σ H5 ⟨k, rfl, hk, b5, a5, ef5, fx5, eg5⟩
    -- the moves
    refine ⟨.int k, rfl, k, rfl, by omega, by omega, for_range (n := k.toNat) (fun j σ H' => (∃ y8, σ = [some (.ref h), some (.int most), some (.int many), some (.int size), some (.ref f), some (.int (0 + (i : Int))), some (.ref g), some (.int k), y8]) ∧ But h H H' ∧ Hand h c H' ∧ H' f = some (.lst xs) ∧ (∀ x ∈ xs, IsNode H' many x) ∧ ∃ ys, H' g = some (.lst ys) ∧ ys.length = j ∧ ∀ y ∈ ys, IsMove H' many y)
      ⟨⟨_, rfl⟩, b5, a5, ef5, fx5, [], eg5, rfl, fun x m => by cases m⟩ (fun j σ H6 hj p => ?_) (fun σ H6 p => ?_)⟩
    · obtain ⟨⟨y8', rfl⟩, b6, a6, ef6, fx6, ys, eg6, ly, fy⟩ := p
      refine ⟨.ref g, rfl, .inl ⟨rfl, _, .inl (.inl eg6)⟩, .ref h, rfl, .int size, rfl, h, c, size, rfl, by omega, by omega, a6, fun r H7 r0 r1 b7 a7 => ⟨.int size, rfl, size, 2, rfl, rfl, ⟨by decide, by decide⟩, r, _, rfl, rfl, .ref h, rfl, .int many, rfl, h, c, many, rfl, by omega, by omega, a7, fun r2 H8 r20 r21 b8 a8 => ⟨(by show 2 ≤ sizeLine; decide), fun p hp => ?_⟩⟩⟩
      have c8 : But h H6 H8 := b7.trans b8
      have eg8 := c8 g _ ngh eg6
      have s9 := same_upd (o := .tup [.int (r - size / 2), .int r2]) hp
      have eg9 := s9 _ _ eg8
      have t6 : Tu H6 (upd H8 p (.tup [.int (r - size / 2), .int r2])) := (Tu.but a6.isL c8).trans (Tu.same s9)
      have tg : Tu (upd H8 p (.tup [.int (r - size / 2), .int r2])) (upd (upd H8 p (.tup [.int (r - size / 2), .int r2])) g (.lst (ys ++ [.ref p]))) := Tu.lst eg9
      refine ⟨g, ys, .ref p, rfl, rfl, eg9, small1000 (by omega), ⟨_, rfl⟩, ?_, ?_, ?_, ?_, ys ++ [.ref p], upd_same, by rw [List.length_append, ly]; rfl, fun y m => ?_⟩
      · exact But.at_new ((b6.trans c8).trans (But.of s9)) Hg
      · exact Hand.other (a8.same s9) ⟨ngh, ngc⟩
      · rw [upd_ne ngf.symm]
        exact s9 _ _ (c8 f _ nfh ef6)
      · exact fun x m => (t6.trans tg).node (fx6 x m)
      · rcases List.mem_append.mp m with m | m
        · exact (t6.trans tg).move (fy y m)
        · rw [List.mem_singleton.mp m]
          refine ⟨.int (r - size / 2), .int r2, tupOf_ref (tg p _ upd_same), ⟨_, rfl, ?_⟩, ⟨_, rfl, by omega, by omega⟩⟩
          rcases hs with rfl | rfl | rfl <;> omega
    · obtain ⟨⟨y8', rfl⟩, b6, a6, ef6, fx6, ys, eg6, ly, fy⟩ := p
      refine ⟨.ref f, rfl, .inl ⟨rfl, _, .inl (.inl ef6)⟩, .ref g, rfl, .inl ⟨g, ys, rfl, SqL.of eg6, fun p hp => ?_⟩⟩
      have s9 := same_upd (o := .tup ys) hp
      have ef9 := s9 _ _ ef6
      have tg : Tu (upd H6 p (.tup ys)) (upd (upd H6 p (.tup ys)) f (.lst (xs ++ [.ref p]))) := Tu.lst ef9
      have t6 : Tu H6 (upd H6 p (.tup ys)) := Tu.same s9
      refine ⟨f, xs, .ref p, rfl, rfl, ef9, small1000 (by omega), ⟨_, _, _, _, rfl⟩, ?_, ?_, xs ++ [.ref p], upd_same, by rw [List.length_append, lx]; rfl, fun x m => ?_⟩
      · exact But.at_new (b6.trans (But.of s9)) Hf
      · exact Hand.other (a6.same s9) ⟨nfh, nfc⟩
      · rcases List.mem_append.mp m with m | m
        · exact (t6.trans tg).node (fx6 x m)
        · rw [List.mem_singleton.mp m]
          exact ⟨ys, tupOf_ref (tg p _ upd_same), by omega, fun y m => (t6.trans tg).move (fy y m)⟩
  · obtain ⟨⟨y5, y6, y7, y8, rfl⟩, b3, a3, xs, ef, lx, fx⟩ := p
    refine ⟨.ref f, rfl, .inl ⟨f, xs, rfl, SqL.of ef, fun p hp => ?_⟩⟩
    have s4 := same_upd (o := .tup xs) hp
    refine q _ _ (b3.trans (But.of s4)) (a3.same s4) ⟨xs, tupOf_ref upd_same, by omega, fun x m => ?_⟩
    have e : ((xs.length : Nat) : Int) = many := by omega
    rw [e]
    exact (Tu.same s4).node (fx x m)
end
end K01

set_option Elab.async false
set_option linter.all false
set_option maxRecDepth 100000
set_option maxHeartbeats 4000000
namespace K01
open PySem PySem.Spec PyProof.Rows L2
/-! ### t[::-1] of a tuple -/
theorem places_rev (n : Nat) : Builtin.Slice.slicePlaces ((n : Int) - 1) (-1) (-1) = n := by
  unfold Builtin.Slice.slicePlaces
  have h1 : ¬ (-1 : Int) > 0 := by omega
  have h2 : -(-1 : Int) = 1 := by omega
  simp only [h1, if_false, h2, Int.ediv_one]
  split <;> omega
theorem adjust_rev (n : Nat) : Builtin.Slice.sliceAdjust none none (-1) (n : Int) = ((n : Int) - 1, -1) := by
  unfold Builtin.Slice.sliceAdjust
  have h1 : (-1 : Int) < 0 := by omega
  simp only [h1, if_true]
theorem filterMap_ext {α β : Type} {f g : α → Option β} : ∀ {xs : List α}, (∀ x ∈ xs, f x = g x) → xs.filterMap f = xs.filterMap g
  | [], _ => rfl
  | x :: r, h => by
    rw [List.filterMap_cons, List.filterMap_cons, h x (List.mem_cons_self), filterMap_ext (xs := r) fun y m => h y (List.mem_cons_of_mem _ m)]
theorem pick_rev (xs : Array Value) : ((List.range xs.size).filterMap fun (m : Nat) => xs[(((xs.size : Nat) : Int) - 1 + (m : Int) * (-1)).toNat]?).toArray = xs.toList.reverse.toArray := by
  have e : ((List.range xs.size).filterMap fun (m : Nat) => xs[(((xs.size : Nat) : Int) - 1 + (m : Int) * (-1)).toNat]?) = (List.range xs.size).filterMap ((fun k => xs[k]?) ∘ fun m => xs.size - 1 - m) := by
    refine filterMap_ext fun m hm => ?_
    have hm := List.mem_range.mp hm
    show xs[(((xs.size : Nat) : Int) - 1 + (m : Int) * (-1)).toNat]? = xs[xs.size - 1 - m]?
    have : (((xs.size : Nat) : Int) - 1 + (m : Int) * (-1)).toNat = xs.size - 1 - m := by omega
    rw [this]
  rw [e, ← List.filterMap_map, PySem.W.krv_range, List.filterMap_reverse, PySem.W.krv_all]
section
variable {prog : Program} {w : World} {s : Shared} {A : Around} {E : Value → Shared → Prop}
theorem sliceApplied_rev {sl : Addr} {vl vu vs : Value} {n : Nat} {Q : Int × Int × Nat → Shared → Prop} (hs : s.heap.IsSliceOf sl vl vu vs) (pl : IsPart vl none) (pu : IsPart vu none) (ps : IsPart vs (some (-1)))
    (h : Q ((n : Int) - 1, -1, n) s) : wpAny (model prog w) A (Builtin.Slice.sliceApplied (.ref sl) (pure (n : Int))) Q E s := by
  obtain ⟨os, hos, hcs, hds⟩ := id hs
  unfold Builtin.Slice.sliceApplied Builtin.Slice.sliceFields
  refine wpAny_bind (wpAny_bind (wpAny_field hos hds (x := vl) rfl (wpAny_bind (wpAny_field hos hds (x := vu) rfl (wpAny_bind (wpAny_field hos hds (x := vs) rfl (wpAny_pure ?_)))))))
  refine wpAny_bind (HT.slicePart_ ps ?_)
  show wpAny _ _ (if ((-1 : Int) == 0) = true then _ else _) _ _ s
  rw [if_neg (by decide)]
  refine wpAny_bind (HT.slicePart_ pl (wpAny_bind (HT.slicePart_ pu (wpAny_bind (wpAny_pure ?_)))))
  show wpAny _ _ (match Builtin.Slice.sliceAdjust none none (-1) (n : Int) with | (lo, hi) => pure (lo, (-1 : Int), Builtin.Slice.slicePlaces lo hi (-1))) _ _ s
  rw [adjust_rev n]
  show wpAny _ _ (pure ((n : Int) - 1, (-1 : Int), Builtin.Slice.slicePlaces ((n : Int) - 1) (-1) (-1))) _ _ s
  rw [places_rev n]
  exact wpAny_pure h
theorem getItem_tuple_rev {t sl : Addr} {items : Array Value} {vl vu vs : Value} {Q : Value → Shared → Prop} (ht : IsTup s.heap t items) (hs : s.heap.IsSliceOf sl vl vu vs) (pl : IsPart vl none) (pu : IsPart vu none) (ps : IsPart vs (some (-1)))
    (h : Q (.ref s.heap.objs.size) { s with heap := s.heap.push { cls := .type "tuple", data := .seq items.toList.reverse.toArray } })
    (hsz : items.size ≤ sizeLine) : wpAny (model prog w) A (getItem (.ref t) (.ref sl)) Q E s := by
  have htake : sizeOk (.seq items.toList.reverse.toArray) := by
    show items.toList.reverse.toArray.size ≤ sizeLine
    rw [List.size_toArray, List.length_reverse, Array.length_toList]
    exact hsz
  obtain ⟨os, hos, hcs, hds⟩ := id hs
  have hTs : s.TypeIs (.ref sl) "slice" := ⟨os, hos, hcs⟩
  unfold getItem
  try with_reducible refine wpAny_holding ?_
  first | refine wpAny_bind (wpAny_pure ?_) | skip
  refine wpAny_bind (wpAny_sequenceKey ht.typeIs (by decide) ?_)
  refine wpAny_bind (wpAny_callSpecial?_slot (name := Str.ofString "__getitem__") ht.typeIs PyProof.Rows.slot_tuple_getitem
    (wpAny_call_entry PyProof.Rows.slot_tuple_getitem ht.typeIs entry_tuple_getitem ?_ (args_tuple_getitem _ _)))
  show wpAny _ _ (Builtin.Tuple.tupleItemsOf (.ref t) >>= _) _ _ s
  refine wpAny_bind (tupleItemsOf_ ht ?_)
  refine wpAny_bind (wpAny_typeOf hTs ?_)
  rw [if_pos (by decide)]
  refine wpAny_bind (sliceApplied_rev hs pl pu ps ?_)
  show wpAny _ _ (if ((((items.size : Nat) : Int) - 1) == 0 && (-1 : Int) == 1 && items.size == items.size) = true then _ else _) _ _ s
  rw [if_neg (by simp), pick_rev]
  first
    | exact wpAny_bind (m := Builtin.Tuple.tupleExact _) (wpAny_newObj_type (wpAny_pure ⟨_, rfl, wpAny_pure h⟩) htake)
    | exact wpAny_bind (m := Builtin.Tuple.tupleExact _) (wpAny_newObj_type (wpAny_bind (wpAny_pure (wpAny_pure ⟨_, rfl, wpAny_pure h⟩))) htake)
end
def tRevT (K : PySem.W.Frag) (te : TE) : TE := fun σ H Q => te σ H fun x H1 => ∃ a xs, x = .ref a ∧ SqT K H1 a xs ∧ ∀ p, H1 p = none → Q (.ref p) (upd H1 p (.tup xs.reverse))
theorem pe_revT {X : Cx} {e : Expr} {te : TE} {k : Nat} {p1 p2 p3 pos : Pos} (he : PE X e te) : PE X (.Subscript e (.Slice none none (some (.UnaryOp .USub (.Constant (.int 1) k p1) p2)) p3) pos) (tRevT X.K te) := by
  refine ⟨fun pins s σ H Q I h => ?_⟩
  refine Subscript_ (thn (he.run pins s σ H _ I h) fun v s1 ⟨x, H1, I1, r1, q1⟩ => ?_)
  obtain ⟨a, xs, ex, hx, q⟩ := q1
  subst ex
  cases r1
  have hst : PO X (some (.UnaryOp .USub (.Constant (.int 1) k p1) p2)) (tPart (tUn (rU fun i => .int (-i)) (tC (.int 1)))) := po_some (pe_un un_neg pe_int)
  refine wpAny_Slice (thn (po_none.run pins s1 σ H1 (fun o H2 => o = none ∧ H2 = H1) I1 ⟨rfl, rfl⟩) fun vl s2 ⟨l, H2, I2, pl, el, e2⟩ => ?_)
  subst el e2
  refine thn (po_none.run pins s2 σ H2 (fun o H3 => o = none ∧ H3 = H2) I2 ⟨rfl, rfl⟩) fun vu s3 ⟨u, H3, I3, pu, eu, e3⟩ => ?_
  subst eu e3
  refine thn (hst.run pins s3 σ H3 (fun o H4 => o = some (-1) ∧ H4 = H3) I3 ⟨1, rfl, -1, rfl, rfl, rfl⟩) fun vs s4 ⟨o, H4, I4, ps, eo, e4⟩ => ?_
  subst eo e4
  have I5 : Inv X pins σ H4 { s4 with heap := s4.heap.push { cls := .type "slice", data := .fields #[vl, vu, vs] } } := I4.kept (t' := s4.toks) fun b ob q => Heap.get?_push_of_some _ q
  obtain ⟨its, r, ht, hz⟩ := I5.tuple hx
  have hlen := r.length
  show wpAny (model X.prog X.w) X.A (subscriptTail e (.Slice none none (some (.UnaryOp .USub (.Constant (.int 1) k p1) p2)) p3) (.ref a) (.ref s4.heap.objs.size)) (EP X pins σ Q) X.xe { s4 with heap := s4.heap.push { cls := .type "slice", data := .fields #[vl, vu, vs] } }
  refine tail_any (ops := [.ref a, .ref s4.heap.objs.size]) ht.typeIs (PyProof.Rows.slot_tuple_getitem.lookup) ?_ (by with_unfolding_all rfl)
  refine getItem_tuple_rev ht (Heap.IsSliceOf.new _ vl vu vs) pl pu ps ?_ (by rw [List.size_toArray]; omega)
  refine ⟨.ref _, _, I5.laid (t' := s4.toks) (o := .tup xs.reverse) (fun b ob q => Heap.get?_push_of_some _ q) (Nat.le_refl _) ?_, rfl, q _ (I5.hok.fresh (Nat.le_refl _))⟩
  exact ⟨by rw [List.length_reverse]; exact hz, _, r.reverse, IsTup.new _ _⟩
end K01

set_option Elab.async false
set_option linter.all false
set_option maxRecDepth 100000
set_option maxHeartbeats 4000000
namespace K01
open PySem PySem.Spec PyProof.Rows L2
/-! ### readings that give a datum -/
def Gives (h : Addr) (t : TE) (σ : L2.St) : Prop := ∀ (H : Hp) (Q : VK), IsL h H → (∀ x H', Same H H' → Kn h H' x → Q x H') → t σ H Q
def GivesA (h : Addr) (n : Nat) (t : TA) (σ : L2.St) : Prop := ∀ (H : Hp) (Q : List V → Hp → Prop), IsL h H → (∀ xs H', Same H H' → (∀ x ∈ xs, Kn h H' x) → xs.length = n → Q xs H') → t σ H Q
theorem IsL.same {h : Addr} {H H' : Hp} (l : IsL h H) (s : Same H H') : IsL h H' := by
  obtain ⟨xs, e⟩ := l
  exact ⟨xs, s _ _ e⟩
section
variable {h : Addr} {σ : L2.St} {ta : TE} {tr : TA} {n : Nat}
theorem Gives.non : Gives h (tC .non) σ := fun H Q _ q => q _ _ (Same.refl _) .non
theorem Gives.bl {b : Bool} : Gives h (tC (.bl b)) σ := fun H Q _ q => q _ _ (Same.refl _) (.bl b)
theorem Gives.int {i : Int} : Gives h (tC (.int i)) σ := fun H Q _ q => q _ _ (Same.refl _) (.int i)
theorem Gives.str {z : Str} : Gives h (tC (.str z)) σ := fun H Q _ q => q _ _ (Same.refl _) (.str z)
theorem Gives.neg {i : Int} : Gives h (tUn (rU fun i => .int (-i)) (tC (.int i))) σ := fun H Q _ q => ⟨i, rfl, q _ _ (Same.refl _) (.int _)⟩
theorem GivesA.nil : GivesA h 0 tNil σ := fun H Q _ q => q [] _ (Same.refl _) (fun x m => by cases m) rfl
theorem GivesA.cons (a : Gives h ta σ) (b : GivesA h n tr σ) : GivesA h (n + 1) (tCons ta tr) σ := fun H Q l q =>
  a H _ l fun x H1 s1 k1 => b H1 _ (l.same s1) fun xs H2 s2 k2 e => q (x :: xs) H2 (s1.trans s2) (fun y m => by
    rcases List.mem_cons.mp m with rfl | m
    · exact k1.same s2
    · exact k2 y m) (by rw [List.length_cons, e])
theorem Gives.tup (a : GivesA h n tr σ) (hn : n ≤ 1000 := by decide) : Gives h (tTup tr) σ := fun H Q l q =>
  a H _ l fun xs H1 s1 k1 e => ⟨Nat.le_of_lt (small1000 (by omega)), fun p hp => q _ _ (s1.trans (same_upd hp)) (.tup p xs upd_same (by omega) fun x m => (k1 x m).same (same_upd hp))⟩
theorem Gives.lst (a : GivesA h n tr σ) (hn : n ≤ 1000 := by decide) : Gives h (tLst tr) σ := fun H Q l q =>
  a H _ l fun xs H1 s1 k1 e => ⟨Nat.le_of_lt (small1000 (by omega)), fun p hp => q _ _ (s1.trans (same_upd hp)) (.lst p xs (fun z => by
    obtain ⟨ys, ey⟩ := l.same s1
    rw [z, ey] at hp
    cases hp) upd_same)⟩
theorem Gives.pow : Gives h (tOp (rI CPow fun i j => .int (i ^ j.toNat)) (tC (.int 10)) (tC (.int 6))) σ := fun H Q _ q =>
  ⟨10, 6, rfl, rfl, ⟨by decide, by decide, by decide⟩, q _ _ (Same.refl _) (.int _)⟩
theorem Gives.pow1 : Gives h (tOp (rI0 fun i j => .int (i + j)) (tOp (rI CPow fun i j => .int (i ^ j.toNat)) (tC (.int 10)) (tC (.int 6))) (tC (.int 1))) σ := fun H Q _ q =>
  ⟨10, 6, rfl, rfl, ⟨by decide, by decide, by decide⟩, _, 1, rfl, rfl, q _ _ (Same.refl _) (.int _)⟩
theorem Gives.npow : Gives h (tUn (rU fun i => .int (-i)) (tOp (rI CPow fun i j => .int (i ^ j.toNat)) (tC (.int 10)) (tC (.int 6)))) σ := fun H Q _ q =>
  ⟨10, 6, rfl, rfl, ⟨by decide, by decide, by decide⟩, _, rfl, q _ _ (Same.refl _) (.int _)⟩
theorem Gives.npow1 : Gives h (tOp (rI0 fun i j => .int (i - j)) (tUn (rU fun i => .int (-i)) (tOp (rI CPow fun i j => .int (i ^ j.toNat)) (tC (.int 10)) (tC (.int 6)))) (tC (.int 1))) σ := fun H Q _ q =>
  ⟨10, 6, rfl, rfl, ⟨by decide, by decide, by decide⟩, _, rfl, _, 1, rfl, rfl, q _ _ (Same.refl _) (.int _)⟩
theorem Gives.sub1 {i : Nat} {j : Int} (e : σ[i]? = some (some (.int j))) : Gives h (tOp (rI0 fun i j => .int (i - j)) (tVar i) (tC (.int 1))) σ := fun H Q _ q =>
  ⟨_, e, j, 1, rfl, rfl, q _ _ (Same.refl _) (.int _)⟩
theorem GivesA.run {H : Hp} {Q : VK} (a : GivesA h n tr σ) (l : IsL h H) (hn : n ≤ 1000) (q : ∀ p xs H', Same H H' → H' p = some (.lst xs) → p ≠ h → xs.length = n → (∀ x ∈ xs, Kn h H' x) → Q (.ref p) H') : tLst tr σ H Q :=
  a H _ l fun xs H1 s1 k1 e => ⟨Nat.le_of_lt (small1000 (by omega)), fun p hp => q p xs _ (s1.trans (same_upd hp)) upd_same (fun z => by
    obtain ⟨ys, ey⟩ := l.same s1
    rw [z, ey] at hp
    cases hp) e fun x m => (k1 x m).same (same_upd hp)⟩
theorem cat_run {H : Hp} {Q : VK} {i : Nat} {p : Addr} {xs : List V} (e : σ[i]? = some (some (.ref p))) (ep : H p = some (.lst xs)) (kp : ∀ x ∈ xs, Kn h H x) (hx : xs.length ≤ 500) (a : GivesA h n tr σ) (l : IsL h H) (hn : n ≤ 500)
    (q : ∀ u ys H', Same H H' → H' u = some (.lst ys) → u ≠ h → ys.length = xs.length + n → (∀ x ∈ ys, Kn h H' x) → Q (.ref u) H') : tOp rCat (tVar i) (tLst tr) σ H Q :=
  ⟨.ref p, e, GivesA.run a l (by omega) fun r ys H1 s1 er nr lr kr => ⟨p, r, xs, ys, rfl, rfl, s1 _ _ ep, er, Nat.le_of_lt (small1000 (by omega)), fun u hu =>
    q u (xs ++ ys) _ (s1.trans (same_upd hu)) upd_same (fun z => by
      obtain ⟨zs, ez⟩ := l.same s1
      rw [z, ez] at hu
      cases hu) (by rw [List.length_append, lr]) fun x m => by
      rcases List.mem_append.mp m with m | m
      · exact (kp x m).same (s1.trans (same_upd hu))
      · exact (kr x m).same (same_upd hu)⟩⟩
theorem Gives.var {i : Nat} {j : Int} (e : σ[i]? = some (some (.int j))) : Gives h (tVar i) σ := fun H Q _ q => ⟨_, e, q _ _ (Same.refl _) (.int j)⟩
end
section
variable {P : Program} {w : World} {K : PySem.W.Frag} {mg : Str → Option Value} {base : Heap}
def spOdd : Sp := fun vs H Q _ => ∃ h c many, vs = [.ref h, .int many] ∧ Hand h c H ∧ ∀ v H', But h H H' → Hand h c H' → Kn h H' v → Q v H'
theorem ok__law_odd (T : Top K mg) : FnOk P w K mg base CX0 3 T.f__law_odd T.d__law_odd ["_law_hand_here", "_law_many"] spOdd := by
  have G__law_draw : FnOk P w K mg base CX0 2 T.f__law_draw T.d__law_draw ["_law_hand_here", "_law_size"] (spDraw 1000000000) := ok_draw T
  refine T.D__law_odd.F.ok sc__law_odd (fun vs H Q E h => ?_) (fun cdv A outer s H vs Q E hr h => ?_)
  · obtain ⟨h, c, many, rfl, _⟩ := h
    rfl
  obtain ⟨h, c, many, rfl, a0, q⟩ := h
  refine ⟨_, (C8.pss_cut (ps_set (i := 2) sc__law_odd.nd rfl (.inl rfl) (pe_lst (pa_cons pe_non (pa_cons pe_bl (pa_cons pe_int (pa_cons (pe_un un_neg pe_int) (pa_cons pe_str (pa_cons (pe_tup pa_nil) (pa_cons (pe_lst pa_nil) (pa_cons (pe_tup (pa_cons pe_int pa_nil)) (pa_cons (pe_tup (pa_cons pe_int (pa_cons pe_int pa_nil))) (pa_cons (pe_tup (pa_cons pe_int (pa_cons (pv 1) pa_nil))) (pa_cons (pe_tup (pa_cons pe_int (pa_cons (pe_un un_neg pe_int) pa_nil))) (pa_cons (pe_tup (pa_cons (pe_op op_add (pe_op op_pow pe_int pe_int) pe_int) (pa_cons pe_int pa_nil))) (pa_cons (pe_tup (pa_cons (pe_op op_sub (pe_un un_neg (pe_op op_pow pe_int pe_int)) pe_int) (pa_cons pe_int pa_nil))) pa_nil)))))))))))))))
    (C8.pss_cut (ps_set (i := 2) sc__law_odd.nd rfl (.inl rfl) (pe_op op_cat (pv 2) (pe_lst (pa_cons (pe_tup (pa_cons (pe_op op_pow pe_int pe_int) (pa_cons (pe_op op_sub (pv 1) pe_int) pa_nil))) (pa_cons (pe_tup (pa_cons (pe_un un_neg (pe_op op_pow pe_int pe_int)) (pa_cons pe_int pa_nil))) (pa_cons (pe_tup (pa_cons pe_int (pa_cons pe_bl pa_nil))) (pa_cons (pe_tup (pa_cons pe_bl (pa_cons pe_int pa_nil))) (pa_cons (pe_lst (pa_cons pe_int (pa_cons pe_int pa_nil))) (pa_cons (pe_tup (pa_cons pe_int (pa_cons pe_int (pa_cons pe_int pa_nil)))) (pa_cons (pe_tup (pa_cons (pe_tup (pa_cons pe_int (pa_cons pe_int pa_nil))) pa_nil)) (pa_cons (pe_tup (pa_cons pe_str (pa_cons pe_int pa_nil))) pa_nil)))))))))))
    (pss_one (ps_ret (pe_ix ix_list (pv 2) (pe_call G__law_draw (hr.mono (by omega)) rfl T.D__law_draw.g T.D__law_draw.F.kp T.D__law_draw.b .nil pass0 (pa_cons (pv 0) (pa_cons (pe_callB call_len_seq rfl T.b_len bt_len (pa_cons (pv 2) pa_nil)) pa_nil))) (fun _ _ => rfl)))))), ?_⟩
  -- the first list
  have l0 := a0.isL
  refine ⟨fun σ H' => ∃ p xs, σ = [some (.ref h), some (.int many), some (.ref p)] ∧ Same H H' ∧ H' p = some (.lst xs) ∧ xs.length = 13 ∧ ∀ x ∈ xs, Kn h H' x, ?_, ?_⟩
  · unfold tAsg
    refine GivesA.run (n := 13) (.cons .non (.cons .bl (.cons .int (.cons .neg (.cons .str (.cons (.tup .nil) (.cons (.lst .nil) (.cons (.tup (.cons .int .nil)) (.cons (.tup (.cons .int (.cons .int .nil))) (.cons (.tup (.cons .int (.cons (.var rfl) .nil))) (.cons (.tup (.cons .int (.cons .neg .nil))) (.cons (.tup (.cons .pow1 (.cons .int .nil))) (.cons (.tup (.cons .npow1 (.cons .int .nil))) .nil))))))))))))) l0 (by decide) fun p xs H1 s1 ep np lx kx => ?_
    exact ⟨p, xs, rfl, s1, ep, lx, kx⟩
  rintro σ H1 ⟨p, xs, rfl, s1, ep, lp, kp⟩
  have l1 := l0.same s1
  refine ⟨fun σ H' => ∃ p xs, σ = [some (.ref h), some (.int many), some (.ref p)] ∧ Same H H' ∧ H' p = some (.lst xs) ∧ xs.length = 21 ∧ p ≠ h ∧ ∀ x ∈ xs, Kn h H' x, ?_, ?_⟩
  · unfold tAsg
    refine cat_run (n := 8) (i := 2) (p := p) rfl ep kp (by omega) (.cons (.tup (.cons .pow (.cons (.sub1 rfl) .nil))) (.cons (.tup (.cons .npow (.cons .int .nil))) (.cons (.tup (.cons .int (.cons .bl .nil))) (.cons (.tup (.cons .bl (.cons .int .nil))) (.cons (.lst (.cons .int (.cons .int .nil))) (.cons (.tup (.cons .int (.cons .int (.cons .int .nil)))) (.cons (.tup (.cons (.tup (.cons .int (.cons .int .nil))) .nil)) (.cons (.tup (.cons .str (.cons .int .nil))) .nil)))))))) l1 (by decide) fun u ys H2 s2 eu nu lu ku => ?_
    exact ⟨u, ys, rfl, s1.trans s2, eu, by omega, nu, ku⟩
  rintro σ H2 ⟨r, ys, rfl, s2, er, lr, rnh, kr⟩
  have a2 := a0.same s2
  refine ⟨.ref r, rfl, .ref h, rfl, .ref r, rfl, r, ys, rfl, .inl (SqL.of er), h, c, _, rfl, by omega, by omega, a2, fun x H3 x0 x1 b3 a3 => ?_⟩
  obtain ⟨v, mv, ev⟩ := atI_mem x0 x1
  exact ⟨r, ys, x, v, rfl, rfl, SqL.of (b3 r _ rnh er), ev, q v H3 ((But.of s2).trans b3) a3 ((kr v mv).mono a2.isL b3)⟩
end
end K01

set_option Elab.async false
set_option linter.all false
set_option maxRecDepth 100000
set_option maxHeartbeats 1000000
namespace K01
open PySem PySem.Spec PyProof.Rows L2
/-! ### readings that give a tuple of things of a kind -/
def GivesO (t : TO) (σ : L2.St) : Prop := ∀ (H : Hp) (Q : Option Int → Hp → Prop), (∀ o, Q o H) → t σ H Q
def GivesT (S : V → Prop) (n : Nat) (t : TE) (σ : L2.St) (H0 : Hp) : Prop := ∀ (H : Hp) (Q : VK), Same H0 H → (∀ a xs H', Same H H' → H' a = some (.tup xs) → (∀ x ∈ xs, S x) → xs.length ≤ n → Q (.ref a) H') → t σ H Q
theorem slA_run {K : PySem.W.Frag} {H : Hp} {Q : VK} {a : Addr} {xs : List V} {lo hi : Option Int} (e : H a = some (.tup xs)) (q : ∀ p ys H', Same H H' → H' p = some (.tup ys) → (∀ y ∈ ys, y ∈ xs) → ys.length ≤ xs.length → Q (.ref p) H') : rSlA K (.ref a) lo hi H Q :=
  ⟨a, xs, rfl, SqT.of e, fun _ => q a xs H (Same.refl _) e (fun y m => m) (Nat.le_refl _), fun _ p hp => q p (cutV xs lo hi) _ (same_upd hp) upd_same (fun y m => List.mem_of_mem_drop (List.mem_of_mem_take m)) (cutV_length xs lo hi)⟩
theorem catA_run {K : PySem.W.Frag} {H : Hp} {Q : VK} {a b : Addr} {xs ys : List V} (ea : H a = some (.tup xs)) (eb : H b = some (.tup ys)) (z : xs.length + ys.length ≤ 900)
    (q : ∀ p zs H', Same H H' → H' p = some (.tup zs) → (∀ y ∈ zs, y ∈ xs ∨ y ∈ ys) → zs.length = xs.length + ys.length → Q (.ref p) H') : rCatA K (.ref a) (.ref b) H Q := by
  refine ⟨a, b, xs, ys, rfl, rfl, SqT.of ea, SqT.of eb, Nat.le_of_lt (small1000 (by omega)), fun e => ?_, fun _ e => ?_, fun _ _ p hp => ?_⟩
  · subst e
    exact q b ys H (Same.refl _) eb (fun y m => .inr m) (by simp)
  · subst e
    exact q a xs H (Same.refl _) ea (fun y m => .inl m) (by simp)
  · exact q p (xs ++ ys) _ (same_upd hp) upd_same (fun y m => List.mem_append.mp m) (by rw [List.length_append])
section
variable {K : PySem.W.Frag} {S : V → Prop} {σ : L2.St} {H0 : Hp} {n m : Nat} {ta tb : TE}
theorem GivesO.none : GivesO tNoPart σ := fun H Q q => q _
theorem GivesO.int {i : Int} : GivesO (tPart (tC (.int i))) σ := fun H Q q => ⟨i, rfl, q _⟩
theorem GivesO.var {i : Nat} {j : Int} (e : σ[i]? = some (some (.int j))) : GivesO (tPart (tVar i)) σ := fun H Q q => ⟨_, e, j, rfl, q _⟩
theorem GivesO.add {i : Nat} {j k : Int} (e : σ[i]? = some (some (.int j))) : GivesO (tPart (tOp (rI0 fun i j => .int (i + j)) (tVar i) (tC (.int k)))) σ := fun H Q q => ⟨_, e, j, k, rfl, rfl, _, rfl, q _⟩
theorem GivesT.slice {tl th : TO} {i : Nat} {a : Addr} {xs : List V} (e : σ[i]? = some (some (.ref a))) (ea : H0 a = some (.tup xs)) (f : ∀ x ∈ xs, S x) (z : xs.length ≤ n) (l : GivesO tl σ) (u : GivesO th σ) : GivesT S n (tSl (rSlA K) (tVar i) tl th) σ H0 := fun H Q s q =>
  ⟨.ref a, e, l _ _ fun lo => u _ _ fun hi => slA_run (s _ _ ea) fun p ys H' s' ep m' l' => q p ys H' s' ep (fun y my => f y (m' y my)) (by omega)⟩
theorem GivesT.one {i : Nat} {v : V} (e : σ[i]? = some (some v)) (f : S v) (hn : 1 ≤ n) : GivesT S n (tTup (tCons (tVar i) tNil)) σ H0 := fun H Q s q =>
  ⟨v, e, (by show 1 ≤ sizeLine; decide), fun p hp => q p [v] _ (same_upd hp) upd_same (fun x mx => by rw [List.mem_singleton.mp mx]; exact f) hn⟩
theorem GivesT.cat (a : GivesT S n ta σ H0) (b : GivesT S m tb σ H0) (z : n + m ≤ 900) : GivesT S (n + m) (tOp (rCatA K) ta tb) σ H0 := fun H Q s q =>
  a H _ s fun p xs H1 s1 e1 f1 l1 => b H1 _ (s.trans s1) fun r ys H2 s2 e2 f2 l2 => catA_run (s2 _ _ e1) e2 (by omega) fun u zs H3 s3 e3 f3 l3 =>
    q u zs H3 (s1.trans (s2.trans s3)) e3 (fun y my => by
      rcases f3 y my with my | my
      · exact f1 y my
      · exact f2 y my) (by omega)
theorem GivesT.rev (a : GivesT S n ta σ H0) : GivesT S n (tRevT K ta) σ H0 := fun H Q s q =>
  a H _ s fun p xs H1 s1 e1 f1 l1 => ⟨p, xs, rfl, SqT.of e1, fun u hu => q u xs.reverse _ (s1.trans (same_upd hu)) upd_same (fun y my => f1 y (List.mem_reverse.mp my)) (by rw [List.length_reverse]; exact l1)⟩
theorem GivesT.go {r : R2} {H : Hp} {Q : VK} (g : GivesT S n (tOp r ta tb) σ H0) (s : Same H0 H) (q : ∀ a xs H', Same H H' → H' a = some (.tup xs) → (∀ x ∈ xs, S x) → xs.length ≤ n → Q (.ref a) H') : tOp r ta tb σ H Q := g H Q s q
end
section
variable {P : Program} {w : World} {K : PySem.W.Frag} {mg : Str → Option Value} {base : Heap}
def spPut : Sp := fun vs H Q _ => ∃ h c a xs more, vs = [.ref h, .ref a, more] ∧ Hand h c H ∧ H a = some (.tup xs) ∧ xs.length ≤ 200 ∧ (∀ x ∈ xs, Kn h H x) ∧ Kn h H more ∧ ∀ v H', But h H H' → Hand h c H' → Kn h H' v → Q v H'
theorem ok__law_put (T : Top K mg) : FnOk P w K mg base CX0 3 T.f__law_put T.d__law_put ["_law_hand_here", "_law_row", "_law_more"] spPut := by
  have G__law_draw : FnOk P w K mg base CX0 2 T.f__law_draw T.d__law_draw ["_law_hand_here", "_law_size"] (spDraw 1000000000) := ok_draw T
  refine T.D__law_put.F.ok sc__law_put (fun vs H Q E h => ?_) (fun cdv A outer s H vs Q E hr h => ?_)
  · obtain ⟨h, c, a, xs, more, rfl, _⟩ := h
    rfl
  obtain ⟨h, c, a, xs, more, rfl, a0, ea, lx, kx, km, q⟩ := h
  refine ⟨_, (pss_cons (ps_par (i := 3) (j := 4) rfl sc__law_put.nd rfl rfl (by decide) rfl rfl (pa_cons (pe_call G__law_draw (hr.mono (by omega)) rfl T.D__law_draw.g T.D__law_draw.F.kp T.D__law_draw.b .nil pass0 (pa_cons (pv 0) (pa_cons (pe_op op_add (pe_callB call_len_seq rfl T.b_len bt_len (pa_cons (pv 1) pa_nil)) pe_int) pa_nil))) (pa_cons (pe_call G__law_draw (hr.mono (by omega)) rfl T.D__law_draw.g T.D__law_draw.F.kp T.D__law_draw.b .nil pass0 (pa_cons (pv 0) (pa_cons pe_int pa_nil))) pa_nil)) (by rfl))
    (pss_cons (ps_if (pt_cmpR op_eq (pv 4) pe_int (nomark _))
      (pss_one (ps_ret (pe_op op_catA (pe_op op_catA (pe_slice sl_tupA (pv 1) po_none (po_some (pv 3))) (pe_tup (pa_cons (pv 2) pa_nil))) (pe_slice sl_tupA (pv 1) (po_some (pe_op op_add (pv 3) pe_int)) po_none))))
      pss_nil)
    (pss_cons (ps_if (pt_cmpR op_eq (pv 4) pe_int (nomark _))
      (pss_one (ps_ret (pe_op op_catA (pe_op op_catA (pe_slice sl_tupA (pv 1) po_none (po_some (pv 3))) (pe_tup (pa_cons (pv 2) pa_nil))) (pe_slice sl_tupA (pv 1) (po_some (pv 3)) po_none))))
      pss_nil)
    (pss_cons (ps_if (pt_cmpR op_eq (pv 4) pe_int (nomark _))
      (pss_one (ps_ret (pe_op op_catA (pe_slice sl_tupA (pv 1) po_none (po_some (pv 3))) (pe_slice sl_tupA (pv 1) (po_some (pe_op op_add (pv 3) pe_int)) po_none))))
      pss_nil)
    (pss_cons (ps_if (pt_cmpR op_eq (pv 4) pe_int (nomark _))
      (pss_one (ps_ret (pe_op op_catA (pe_op op_catA (pe_slice sl_tupA (pv 1) po_none (po_some (pv 3))) (pe_revT (pe_slice sl_tupA (pv 1) (po_some (pv 3)) (po_some (pe_op op_add (pv 3) pe_int))))) (pe_slice sl_tupA (pv 1) (po_some (pe_op op_add (pv 3) pe_int)) po_none))))
      pss_nil)
    (pss_one (ps_ret (pe_callTy call_list_of rfl T.b_list bt_list (pa_cons (pv 1) pa_nil))))))))), ?_⟩
  have l0 := a0.isL
  have nah : a ≠ h := l0.ne ea (fun _ z => nomatch z)
  refine ⟨.ref h, rfl, .ref a, rfl, a, xs, rfl, .inr (SqT.of ea), _, 1, rfl, rfl, h, c, _, rfl, by omega, by omega, a0, fun x H1 x0 x1 b1 a1 => ⟨.ref h, rfl, h, c, 5, rfl, by decide, by decide, a1, fun y H2 y0 y1 b2 a2 => ⟨_, _, rfl, ?_⟩⟩⟩
  have b := b1.trans b2
  have ea2 : H2 a = some (.tup xs) := b a _ nah ea
  have kx2 : ∀ z ∈ xs, Kn h H2 z := fun z m => (kx z m).mono l0 b
  have km2 : Kn h H2 more := km.mono l0 b
  have fin : ∀ p zs H', Same H2 H' → H' p = some (.tup zs) → (∀ z ∈ zs, Kn h H2 z) → zs.length ≤ 900 → Q (.ref p) H' := fun p zs H' s e f z =>
    q _ H' (b.trans (But.of s)) (a2.same s) (.tup p zs e (by omega) fun z m => (f z m).same s)
  refine ⟨.int y, rfl, rfl, _, rfl, ite2 (fun _ => ?_) (fun _ => ?_)⟩
  · unfold tRet
    exact GivesT.go (.cat (.cat (.slice rfl ea2 kx2 lx .none (.var rfl)) (.one rfl km2 (Nat.le_refl 1)) (by omega)) (.slice rfl ea2 kx2 lx (.add rfl) .none) (by omega)) (Same.refl _) fun p zs H' s e f z => fin p zs H' s e f (by omega)
  refine ⟨.int y, rfl, rfl, _, rfl, ite2 (fun _ => ?_) (fun _ => ?_)⟩
  · unfold tRet
    exact GivesT.go (.cat (.cat (.slice rfl ea2 kx2 lx .none (.var rfl)) (.one rfl km2 (Nat.le_refl 1)) (by omega)) (.slice rfl ea2 kx2 lx (.var rfl) .none) (by omega)) (Same.refl _) fun p zs H' s e f z => fin p zs H' s e f (by omega)
  refine ⟨.int y, rfl, rfl, _, rfl, ite2 (fun _ => ?_) (fun _ => ?_)⟩
  · unfold tRet
    exact GivesT.go (.cat (.slice rfl ea2 kx2 lx .none (.var rfl)) (.slice rfl ea2 kx2 lx (.add rfl) .none) (by omega)) (Same.refl _) fun p zs H' s e f z => fin p zs H' s e f (by omega)
  refine ⟨.int y, rfl, rfl, _, rfl, ite2 (fun _ => ?_) (fun _ => ?_)⟩
  · unfold tRet
    exact GivesT.go (.cat (.cat (.slice rfl ea2 kx2 lx .none (.var rfl)) (.rev (.slice rfl ea2 kx2 lx (.var rfl) (.add rfl))) (by omega)) (.slice rfl ea2 kx2 lx (.add rfl) .none) (by omega)) (Same.refl _) fun p zs H' s e f z => fin p zs H' s e f (by omega)
  refine ⟨.ref a, rfl, a, xs, rfl, .inr (SqT.of ea2), fun l hl => q _ _ (b.trans (But.of (same_upd hl))) (a2.same (same_upd hl)) (.lst l xs (a2.ne hl).1 upd_same)⟩
end
end K01

set_option Elab.async false
set_option linter.all false
set_option maxRecDepth 100000
set_option maxHeartbeats 1000000
namespace K01
open PySem PySem.Spec PyProof.Rows L2
theorem rep_mem {xs : List V} {k : Nat} {y : V} (m : y ∈ (List.replicate k xs).flatten) : y ∈ xs := by
  obtain ⟨l, hl, hy⟩ := List.mem_flatten.mp m
  rw [(List.mem_replicate.mp hl).2] at hy
  exact hy
theorem rep_len {xs : List V} {k : Nat} : (List.replicate k xs).flatten.length = k * xs.length := by
  induction k with
  | zero => simp
  | succ k ih => rw [List.replicate_succ, List.flatten_cons, List.length_append, ih, Nat.succ_mul]; omega
theorem repT_run {K : PySem.W.Frag} {H : Hp} {Q : VK} {a : Addr} {xs : List V} {k : Int} (e : H a = some (.tup xs)) (n : xs ≠ []) (k0 : 2 ≤ k) (k1 : k ≤ 20) (z : xs.length ≤ 30) (q : ∀ p ys H', Same H H' → H' p = some (.tup ys) → (∀ y ∈ ys, y ∈ xs) → ys.length ≤ 600 → Q (.ref p) H') : rRepT K (.ref a) (.int k) H Q :=
  ⟨a, k, xs, rfl, rfl, SqT.of e, n, k0, by omega, by omega, fun p hp => q p _ _ (same_upd hp) upd_same (fun y m => rep_mem m) (by
    rw [rep_len]
    have h1 : k.toNat ≤ 20 := by omega
    exact Nat.le_trans (Nat.mul_le_mul h1 z) (by decide))⟩
theorem slA_first {K : PySem.W.Frag} {H : Hp} {Q : VK} {a : Addr} {xs : List V} (e : H a = some (.tup xs)) (n : xs ≠ []) (q : ∀ p ys H', Same H H' → H' p = some (.tup ys) → (∀ y ∈ ys, y ∈ xs) → ys ≠ [] → ys.length ≤ xs.length → Q (.ref p) H') : rSlA K (.ref a) none (some 1) H Q := by
  refine ⟨a, xs, rfl, SqT.of e, fun _ => q a xs H (Same.refl _) e (fun y m => m) n (Nat.le_refl _), fun _ p hp => q p (cutV xs none (some 1)) _ (same_upd hp) upd_same (fun y m => List.mem_of_mem_drop (List.mem_of_mem_take m)) ?_ (cutV_length xs none (some 1))⟩
  unfold cutV
  rw [show HT.sIx xs.length xs.length (some 1) = min 1 xs.length from HT.sIx_nat xs.length xs.length 1, HT.sIx_none]
  cases xs with
  | nil => exact absurd rfl n
  | cons x r =>
    rw [show min 1 (x :: r).length = 1 by
      rw [List.length_cons]
      omega]
    show List.take (1 - 0) (x :: r) ≠ []
    exact fun z => nomatch z
def Is (t : TE) (σ : L2.St) (H0 : Hp) (v : V) : Prop := ∀ (H : Hp) (Q : VK), Same H0 H → Q v H → t σ H Q
theorem Is.ix {K : PySem.W.Frag} {σ : L2.St} {H0 : Hp} {i j : Nat} {a : Addr} {k : Int} {xs : List V} {v : V} (e : σ[i]? = some (some (.ref a))) (f : σ[j]? = some (some (.int k))) (ea : H0 a = some (.tup xs)) (g : atI xs k = some v) : Is (tOp (rIxT K) (tVar i) (tVar j)) σ H0 v := fun H Q s q =>
  ⟨.ref a, e, .int k, f, a, xs, k, v, rfl, rfl, SqT.of (s _ _ ea), g, q⟩
theorem GivesT.slice2 {K : PySem.W.Frag} {S : V → Prop} {σ : L2.St} {H0 : Hp} {n : Nat} {te : TE} {tl th : TO} {a : Addr} {xs : List V} (e : Is te σ H0 (.ref a)) (ea : H0 a = some (.tup xs)) (f : ∀ x ∈ xs, S x) (z : xs.length ≤ n) (l : GivesO tl σ) (u : GivesO th σ) : GivesT S n (tSl (rSlA K) te tl th) σ H0 := fun H Q s q =>
  e H _ s (l _ _ fun lo => u _ _ fun hi => slA_run (s _ _ ea) fun p ys H' s' ep m' l' => q p ys H' s' ep (fun y my => f y (m' y my)) (by omega))
theorem GivesT.rep {K : PySem.W.Frag} {S : V → Prop} {σ : L2.St} {H0 : Hp} {te : TE} {a : Addr} {xs : List V} {k : Int} (e : Is te σ H0 (.ref a)) (ea : H0 a = some (.tup xs)) (n : xs ≠ []) (k0 : 2 ≤ k) (k1 : k ≤ 20) (z : xs.length ≤ 30) (f : ∀ x ∈ xs, S x) : GivesT S 600 (tOp (rRepT K) te (tC (.int k))) σ H0 := fun H Q s q =>
  e H _ s (repT_run (s _ _ ea) n k0 k1 z fun p ys H' s' ep m' l' => q p ys H' s' ep (fun y my => f y (m' y my)) l')
section
variable {P : Program} {w : World} {K : PySem.W.Frag} {mg : Str → Option Value} {base : Heap}
def spBent : Sp := fun vs H Q _ => ∃ h c v, vs = [.ref h, v] ∧ Hand h c H ∧ IsWeb H v ∧ ∀ u H', But h H H' → Hand h c H' → Kn h H' u → Q u H'
theorem ok__law_bent (T : Top K mg) : FnOk P w K mg base CX0 4 T.f__law_bent T.d__law_bent ["_law_hand_here", "_law_web_here"] spBent := by
  have G__law_draw : FnOk P w K mg base CX0 2 T.f__law_draw T.d__law_draw ["_law_hand_here", "_law_size"] (spDraw 1000000000) := ok_draw T
  have G__law_odd : FnOk P w K mg base CX0 3 T.f__law_odd T.d__law_odd ["_law_hand_here", "_law_many"] spOdd := ok__law_odd T
  have G__law_put : FnOk P w K mg base CX0 3 T.f__law_put T.d__law_put ["_law_hand_here", "_law_row", "_law_more"] spPut := ok__law_put T
  refine T.D__law_bent.F.ok sc__law_bent (fun vs H Q E h => ?_) (fun cdv A outer s H vs Q E hr h => ?_)
  · obtain ⟨h, c, v, rfl, _⟩ := h
    rfl
  obtain ⟨h, c, v, rfl, a0, iw, q⟩ := h
  refine ⟨_, (C8.pss_cut (ps_asg (pe_tup (pa_cons (pe_call G__law_draw (hr.mono (by omega)) rfl T.D__law_draw.g T.D__law_draw.F.kp T.D__law_draw.b .nil pass0 (pa_cons (pv 0) (pa_cons (pe_callB call_len_seq rfl T.b_len bt_len (pa_cons (pv 1) pa_nil)) pa_nil))) (pa_cons (pe_call G__law_odd (hr.mono (by omega)) rfl T.D__law_odd.g T.D__law_odd.F.kp T.D__law_odd.b .nil pass0 (pa_cons (pv 0) (pa_cons (pe_callB call_len_seq rfl T.b_len bt_len (pa_cons (pv 1) pa_nil)) pa_nil))) pa_nil))) (pg_tup rfl (pgs_cons (pg_name (i := 2) sc__law_bent.nd rfl (.inl rfl)) (pgs_cons (pg_name (i := 3) sc__law_bent.nd rfl (.inr rfl)) pgs_nil))))
    (C8.pss_cut (ps_set (i := 4) sc__law_bent.nd rfl (.inl rfl) (pe_call G__law_draw (hr.mono (by omega)) rfl T.D__law_draw.g T.D__law_draw.F.kp T.D__law_draw.b .nil pass0 (pa_cons (pv 0) (pa_cons pe_int pa_nil))))
    (C8.pss_cut (ps_if (pt_cmpR op_eq (pv 4) pe_int (nomark _))
      (pss_one (ps_ret (pe_call G__law_put (hr.mono (by omega)) rfl T.D__law_put.g T.D__law_put.F.kp T.D__law_put.b .nil pass0 (pa_cons (pv 0) (pa_cons (pv 1) (pa_cons (pv 3) pa_nil))))))
      pss_nil)
    (C8.pss_cut (ps_set (i := 5) sc__law_bent.nd rfl (.inl rfl) (pe_call G__law_put (hr.mono (by omega)) rfl T.D__law_put.g T.D__law_put.F.kp T.D__law_put.b .nil pass0 (pa_cons (pv 0) (pa_cons (pe_ix ix_tup (pv 1) (pv 2) (fun _ _ => rfl)) (pa_cons (pv 3) pa_nil)))))
    (C8.pss_cut (ps_if (pt_cmpR op_eq (pv 4) pe_int (nomark _))
      (pss_one (ps_set (i := 5) sc__law_bent.nd rfl (.inl rfl) (pe_op op_catA (pe_op op_repT (pe_ix ix_tup (pv 1) (pv 2) (fun _ _ => rfl)) pe_int) (pe_slice sl_tupA (pe_ix ix_tup (pv 1) (pv 2) (fun _ _ => rfl)) po_none (po_some pe_int)))))
      pss_nil)
    (C8.pss_cut (ps_if (pt_cmpR op_eq (pv 4) pe_int (nomark _))
      (pss_one (ps_set (i := 5) sc__law_bent.nd rfl (.inl rfl) (pe_tupleOf rfl T.b_tuple (pe_lc (own := [("_law_move", 6)]) (g := gName 6) (tt := tYes) rfl sc__law_bent.nd (pi_tup (pe_ix ix_tup (pv 1) (pv 2) (fun _ _ => rfl))) (blkOk_by (N := N__law_bent) (sc := defScope s__law_bent) (by decide +kernel)) (fun _ _ _ _ _ => pg_name (i := 6) sc__law_bent.nd rfl (Or.inl rfl)) (fun _ _ _ _ _ => pts_nil) (fun _ _ _ _ _ => (pe_call G__law_put (hr.mono (by omega)) rfl T.D__law_put.g T.D__law_put.F.kp T.D__law_put.b .nil pass0 (pa_cons (pv 0) (pa_cons (pv 6) (pa_cons (pv 3) pa_nil)))))))))
      pss_nil)
    (C8.pss_cut (ps_if (pt_cmpR op_eq (pv 4) pe_int (nomark _))
      (pss_one (ps_set (i := 5) sc__law_bent.nd rfl (.inl rfl) (pe_op op_repT (pe_slice sl_tupA (pe_ix ix_tup (pv 1) (pv 2) (fun _ _ => rfl)) po_none (po_some pe_int)) (pe_ix ix_list (pe_lst (pa_cons pe_int (pa_cons pe_int pa_nil))) (pe_call G__law_draw (hr.mono (by omega)) rfl T.D__law_draw.g T.D__law_draw.F.kp T.D__law_draw.b .nil pass0 (pa_cons (pv 0) (pa_cons pe_int pa_nil))) (fun _ _ => rfl)))))
      pss_nil)
    (pss_one (ps_ret (pe_op op_catA (pe_op op_catA (pe_slice sl_tupA (pv 1) po_none (po_some (pv 2))) (pe_tup (pa_cons (pv 5) pa_nil))) (pe_slice sl_tupA (pv 1) (po_some (pe_op op_add (pv 2) pe_int)) po_none))))))))))), ?_⟩
  have l0 := a0.isL
  obtain ⟨xs, ev, zx, fx⟩ := id iw
  obtain ⟨a, rfl, ea⟩ := tupOf_some ev
  have nah : a ≠ h := l0.ne ea (fun _ z => nomatch z)
  have kw : Kn h H (.ref a) := iw.kn
  -- what holds of the web later on
  have wl : ∀ H', But h H H' → H' a = some (.tup xs) ∧ (∀ x ∈ xs, IsNode H' xs.length x) ∧ ∀ x ∈ xs, Kn h H' x := fun H' b =>
    ⟨b a _ nah ea, fun x m => (Tu.but l0 b).node (fx x m), fun x m => ((Tu.but l0 b).node (fx x m)).kn⟩
  -- at, more
  refine ⟨fun σ H' => ∃ (at' : Int) (more : V), σ = [some (.ref h), some (.ref a), some (.int at'), some more, none, none, none] ∧ (0 ≤ at' ∧ at' < xs.length) ∧ But h H H' ∧ Hand h c H' ∧ Kn h H' more, ?_, ?_⟩
  · refine ⟨.ref h, rfl, .ref a, rfl, a, xs, rfl, .inr (SqT.of ea), h, c, _, rfl, by omega, by omega, a0, fun x H1 x0 x1 b1 a1 => ⟨.ref h, rfl, .ref a, rfl, a, xs, rfl, .inr (SqT.of (wl H1 b1).1), h, c, _, rfl, a1, fun y H2 b2 a2 k2 => ⟨(by show 2 ≤ sizeLine; decide), fun p hp => ⟨p, [.int x, y], rfl, SqT.of upd_same, rfl, .int x, [y], rfl, y, [], rfl, rfl, ?_⟩⟩⟩⟩
    have s3 := same_upd (o := .tup [.int x, y]) hp
    exact ⟨x, y, rfl, ⟨x0, x1⟩, (b1.trans b2).trans (But.of s3), a2.same s3, k2.same s3⟩
  rintro σ H1 ⟨at', more, rfl, ⟨x0, x1⟩, b1, a1, km⟩
  obtain ⟨nd, mnd, end'⟩ := atI_mem x0 x1
  -- way
  refine ⟨fun σ H' => ∃ (way : Int), σ = [some (.ref h), some (.ref a), some (.int at'), some more, some (.int way), none, none] ∧ But h H H' ∧ Hand h c H' ∧ Kn h H' more, ?_, ?_⟩
  · exact ⟨.ref h, rfl, h, c, 5, rfl, by decide, by decide, a1, fun y H2 y0 y1 b2 a2 => ⟨y, rfl, b1.trans b2, a2, km.mono a1.isL b2⟩⟩
  rintro σ H2 ⟨way, rfl, b2, a2, km2⟩
  obtain ⟨ea2, fx2, kx2⟩ := wl H2 b2
  -- way 0
  refine ⟨fun σ H' => σ = [some (.ref h), some (.ref a), some (.int at'), some more, some (.int way), none, none] ∧ H' = H2, ?_, ?_⟩
  · refine ⟨.int way, rfl, rfl, _, rfl, ite2 (fun _ => ?_) (fun _ => ⟨rfl, rfl⟩)⟩
    exact ⟨.ref h, rfl, .ref a, rfl, more, rfl, h, c, a, xs, more, rfl, a2, ea2, by omega, kx2, km2, fun u H3 b3 a3 k3 => q u H3 (b2.trans b3) a3 k3⟩
  rintro σ H2' ⟨rfl, rfl⟩
  -- the node
  obtain ⟨ys, eys, zy, fy⟩ := fx2 nd mnd
  obtain ⟨d, rfl, ed⟩ := tupOf_some eys
  have ky2 : ∀ y ∈ ys, Kn h H2' y := fun y m => (fy y m).kn
  have nl : ∀ H', But h H H' → H' d = some (.tup ys) ∧ ∀ y ∈ ys, IsMove H' xs.length y := fun H' b => by
    obtain ⟨_, f, _⟩ := wl H' b
    obtain ⟨zs, e, _, g⟩ := f _ mnd
    have e1 : tupOf H (.ref d) = some ys := by
      obtain ⟨us, eu, _, _⟩ := fx _ mnd
      have := (Tu.but l0 b2).of eu
      rw [eys] at this
      cases this
      exact eu
    have e2 := (Tu.but l0 b).of e1
    rw [e2] at e
    cases e
    obtain ⟨d', hd, e3⟩ := tupOf_some e2
    cases hd
    exact ⟨e3, g⟩
  refine ⟨fun σ H' => ∃ (node : V), σ = [some (.ref h), some (.ref a), some (.int at'), some more, some (.int way), some node, none] ∧ But h H H' ∧ Hand h c H' ∧ Kn h H' more ∧ Kn h H' node, ?_, ?_⟩
  · exact ⟨.ref h, rfl, .ref a, rfl, .int at', rfl, a, xs, at', .ref d, rfl, rfl, SqT.of ea2, end', more, rfl, h, c, d, ys, more, rfl, a2, ed, by omega, ky2, km2, fun u H3 b3 a3 k3 => ⟨u, rfl, b2.trans b3, a3, km2.mono a2.isL b3, k3⟩⟩
  rintro σ H3 ⟨node, rfl, b3, a3, km3, kn3⟩
  -- way 1
  refine ⟨fun σ H' => ∃ (node : V), σ = [some (.ref h), some (.ref a), some (.int at'), some more, some (.int way), some node, none] ∧ But h H H' ∧ Hand h c H' ∧ Kn h H' more ∧ Kn h H' node, ?_, ?_⟩
  · refine ⟨.int way, rfl, rfl, _, rfl, ite2 (fun _ => ?_) (fun _ => ⟨node, rfl, b3, a3, km3, kn3⟩)⟩
    have ea3 := (wl H3 b3).1
    obtain ⟨ed3, fy3⟩ := nl H3 b3
    have ny : ys ≠ [] := fun z => by
      rw [z] at zy
      exact absurd zy.1 (by decide)
    have ky3 : ∀ y ∈ ys, Kn h H3 y := fun y m => (fy3 y m).kn
    unfold tAsg
    refine GivesT.go (.cat (.rep (.ix rfl rfl ea3 end') ed3 ny (by decide) (by decide) (by omega) ky3) (.slice2 (n := 30) (.ix rfl rfl ea3 end') ed3 ky3 (by omega) .none .int) (by decide)) (Same.refl _) fun u vs H6 s6 eu mu lu => ?_
    exact ⟨.ref u, rfl, b3.trans (But.of s6), a3.same s6, km3.same s6, .tup u vs eu (by omega) fun y m => (mu y m).same s6⟩
  rintro σ H4 ⟨node4, rfl, b4, a4, km4, kn4⟩
  -- way 2
  refine ⟨fun σ H' => ∃ (node : V) (y6 : Option V), σ = [some (.ref h), some (.ref a), some (.int at'), some more, some (.int way), some node, y6] ∧ But h H H' ∧ Hand h c H' ∧ Kn h H' more ∧ Kn h H' node, ?_, ?_⟩
  · refine ⟨.int way, rfl, rfl, _, rfl, ite2 (fun _ => ?_) (fun _ => ⟨node4, none, rfl, b4, a4, km4, kn4⟩)⟩
    have ea4 := (wl H4 b4).1
    obtain ⟨ed4, fy4⟩ := nl H4 b4
    have ndh : d ≠ h := a4.isL.ne ed4 (fun _ z => nomatch z)
    refine ⟨.ref a, rfl, .int at', rfl, a, xs, at', .ref d, rfl, rfl, SqT.of ea4, end', d, rfl, ⟨ys, SqT.of ed4⟩, fun D hD => ?_⟩
    obtain ⟨nDh, nDc⟩ := a4.ne hD
    have HD : H D = none := b4.back nDh hD
    refine lc_tup (xs := ys) (fun i H' => But h H H' ∧ Hand h c H' ∧ Kn h H' more ∧ ∃ zs, H' D = some (.lst zs) ∧ zs.length = i ∧ ∀ z ∈ zs, Kn h H' z)
      ⟨b4.at_new HD, a4.other ⟨nDh, nDc⟩, km4.same (same_upd hD), [], upd_same, rfl, fun z m => by cases m⟩ (fun i H' _ p => SqT.of ((nl H' p.1).1)) (fun i x H' hx p => ?_) (fun H' p => ?_)
    · obtain ⟨b5, a5, km5, zs, eD, lz, fz⟩ := p
      have mx : x ∈ ys := List.mem_of_getElem? hx
      obtain ⟨p1, p2, e1, w1, w2⟩ := (nl H' b5).2 x mx
      obtain ⟨g, rfl, eg⟩ := tupOf_some e1
      have kg : ∀ z ∈ [p1, p2], Kn h H' z := fun z m => by
        have := IsMove.kn (h := h) ⟨p1, p2, e1, w1, w2⟩
        exact (this.items e1).2 z m
      refine ⟨rfl, .ref h, rfl, .ref g, rfl, more, rfl, h, c, g, [p1, p2], more, rfl, a5, eg, (by show 2 ≤ 200; decide), kg, km5, fun u H6 b6 a6 k6 => ?_⟩
      have eD6 := b6 D _ nDh eD
      have tD : ∀ {z : V}, Kn h H6 z → Kn h (upd H6 D (.lst (zs ++ [u]))) z := fun {z} kz => by
        induction kz with
        | non => exact .non
        | bl b => exact .bl b
        | int i => exact .int i
        | str s => exact .str s
        | tup a xs e z _ ih => exact .tup a xs (by rw [upd_ne (fun z => by rw [z, eD6] at e; cases e)]; exact e) z ih
        | lst a xs n e =>
          by_cases q1 : a = D
          · subst q1
            exact .lst a _ n upd_same
          · exact .lst a xs n (by rw [upd_ne q1]; exact e)
        | dct a kvs e => exact .dct a kvs (by rw [upd_ne (fun z => by rw [z, eD6] at e; cases e)]; exact e)
      refine ⟨zs, eD6, small1000 (by have := (List.getElem?_eq_some_iff.mp hx).1; omega), But.at_new (b5.trans b6) HD, a6.other ⟨nDh, nDc⟩, tD (km5.mono a5.isL b6), zs ++ [u], upd_same, by rw [List.length_append, lz]; rfl, fun z m => ?_⟩
      rcases List.mem_append.mp m with m | m
      · exact tD ((fz z m).mono a5.isL b6)
      · rw [List.mem_singleton.mp m]
        exact tD k6
    · obtain ⟨b5, a5, km5, zs, eD, lz, fz⟩ := p
      refine .inl ⟨D, zs, rfl, SqL.of eD, fun u hu => ?_⟩
      have s6 := same_upd (o := .tup zs) hu
      exact ⟨.ref u, _, rfl, b5.trans (But.of s6), a5.same s6, km5.same s6, .tup u zs upd_same (by omega) fun z m => (fz z m).same s6⟩
  rintro σ H5 ⟨node5, y6, rfl, b5, a5, km5, kn5⟩
  -- way 3
  refine ⟨fun σ H' => ∃ (node : V) (y6 : Option V), σ = [some (.ref h), some (.ref a), some (.int at'), some more, some (.int way), some node, y6] ∧ But h H H' ∧ Hand h c H' ∧ Kn h H' more ∧ Kn h H' node, ?_, ?_⟩
  · refine ⟨.int way, rfl, rfl, _, rfl, ite2 (fun _ => ?_) (fun _ => ⟨node5, y6, rfl, b5, a5, km5, kn5⟩)⟩
    have ea5 := (wl H5 b5).1
    obtain ⟨ed5, fy5⟩ := nl H5 b5
    have ny : ys ≠ [] := fun z => by
      rw [z] at zy
      exact absurd zy.1 (by decide)
    refine ⟨.ref a, rfl, .int at', rfl, a, xs, at', .ref d, rfl, rfl, SqT.of ea5, end', 1, rfl, slA_first (K := K) ed5 ny fun p us H6 s6 ep mp nu lu => ⟨(by show 2 ≤ sizeLine; decide), fun r hr' => ?_⟩⟩
    have a6 := a5.same s6
    have nrh := (a6.ne hr').1
    have s7 := same_upd (o := .lst [.int 12, .int 13]) hr'
    refine ⟨.ref h, rfl, h, c, 2, rfl, by decide, by decide, a6.same s7, fun x H7 x0 x1 b7 a7 => ?_⟩
    have c7 : But h H5 H7 := (But.of (s6.trans s7)).trans b7
    have er : H7 r = some (.lst [.int 12, .int 13]) := b7 r _ nrh upd_same
    have nph : p ≠ h := a6.isL.ne ep (fun _ z => nomatch z)
    have ep7 : H7 p = some (.tup us) := b7 p _ nph (s7 _ _ ep)
    obtain ⟨v, mv, ev⟩ := atI_mem (xs := [V.int 12, .int 13]) x0 x1
    have fin : ∀ k : Int, 2 ≤ k → k ≤ 20 → rRepT K (.ref p) (.int k) H7 fun x H1 => ∃ (node : V) (y6' : Option V), ([some (.ref h), some (.ref a), some (.int at'), some more, some (.int way), some x, y6] : L2.St) = [some (.ref h), some (.ref a), some (.int at'), some more, some (.int way), some node, y6'] ∧ But h H H1 ∧ Hand h c H1 ∧ Kn h H1 more ∧ Kn h H1 node := fun k k0 k1 =>
      repT_run (K := K) (k := k) ep7 nu k0 k1 (by omega) fun u vs H8 s8 eu mu lu' => by
        refine ⟨.ref u, y6, rfl, b5.trans (c7.trans (But.of s8)), a7.same s8, (km5.mono a5.isL c7).same s8, .tup u vs eu (by omega) fun y m => ?_⟩
        exact (((fy5 y (mp y (mu y m))).kn (h := h)).mono a5.isL c7).same s8
    rcases List.mem_cons.mp mv with rfl | mv
    · exact ⟨r, _, x, .int 12, rfl, rfl, SqL.of er, ev, fin 12 (by decide) (by decide)⟩
    · rw [List.mem_singleton.mp mv] at ev
      exact ⟨r, _, x, .int 13, rfl, rfl, SqL.of er, ev, fin 13 (by decide) (by decide)⟩
  rintro σ H6 ⟨node6, y6', rfl, b6, a6, km6, kn6⟩
  obtain ⟨ea6, fx6, kx6⟩ := wl H6 b6
  have fin : ∀ p zs H', Same H6 H' → H' p = some (.tup zs) → (∀ z ∈ zs, Kn h H6 z) → zs.length ≤ 900 → Q (.ref p) H' := fun p zs H' s e f z =>
    q _ H' (b6.trans (But.of s)) (a6.same s) (.tup p zs e (by omega) fun z m => (f z m).same s)
  unfold tRet
  exact GivesT.go (.cat (.cat (.slice (n := 200) rfl ea6 kx6 (by omega) .none (.var rfl)) (.one rfl kn6 (Nat.le_refl 1)) (by omega)) (.slice (n := 200) rfl ea6 kx6 (by omega) (.add rfl) .none) (by omega)) (Same.refl _) fun p zs H' s e f z => fin p zs H' s e f (by omega)
end
end K01

set_option Elab.async false
set_option linter.all false
set_option maxRecDepth 100000
set_option maxHeartbeats 1000000
namespace K01
open PySem PySem.Spec PyProof.Rows L2
theorem not_wrong {b : Bool} (h : b = true) : ¬ ((!decide (b = true)) = true) := by
  subst h
  exact Bool.false_ne_true
theorem ne_wrong {b b2 : Bool} (h : b = b2) : ¬ ((!decide (V.bl b = V.bl b2)) = true) := by
  subst h
  rw [decide_eq_true rfl]
  exact Bool.false_ne_true
theorem bl_eq {b b2 : Bool} {p : Prop} (h : b = true ↔ p) (h2 : b2 = true ↔ p) : b = b2 := by
  rw [Bool.eq_iff_iff, h, h2]
/-! three tuples, one in the other -/
section
variable {h : Addr} {H : Hp} {p1 p2 p3 : Addr} {x y : V}
theorem nest_kn (e1 : H p1 = some (.tup [x, y])) (e2 : H p2 = some (.tup [.ref p1])) (e3 : H p3 = some (.tup [.ref p2])) (kx : Kn h H x) (ky : Kn h H y) : Kn h H (.ref p3) :=
  .tup p3 _ e3 (by show 1 ≤ 1000; decide) fun z m => by
    rw [List.mem_singleton.mp m]
    exact .tup p2 _ e2 (by show 1 ≤ 1000; decide) fun z m => by
      rw [List.mem_singleton.mp m]
      refine .tup p1 _ e1 (by show 2 ≤ 1000; decide) fun z m => ?_
      rcases List.mem_cons.mp m with rfl | m
      · exact kx
      · rw [List.mem_singleton.mp m]
        exact ky
theorem nest_node {n : Int} (e1 : H p1 = some (.tup [x, y])) (e2 : H p2 = some (.tup [.ref p1])) : IsNode H n (.ref p2) ↔ IsWI (-1000000) 1000000 x ∧ IsWI 0 (n - 1) y := by
  constructor
  · rintro ⟨zs, q, _, f⟩
    rw [tupOf_ref e2] at q
    cases q
    obtain ⟨x', y', q1, w1, w2⟩ := f (.ref p1) (List.mem_singleton.mpr rfl)
    rw [tupOf_ref e1] at q1
    cases q1
    exact ⟨w1, w2⟩
  · rintro ⟨w1, w2⟩
    refine ⟨_, tupOf_ref e2, ⟨by show 1 ≤ 1; decide, by show 1 ≤ 12; decide⟩, fun z m => ?_⟩
    rw [List.mem_singleton.mp m]
    exact ⟨x, y, tupOf_ref e1, w1, w2⟩
theorem nest_web (e1 : H p1 = some (.tup [x, y])) (e2 : H p2 = some (.tup [.ref p1])) (e3 : H p3 = some (.tup [.ref p2])) : IsWeb H (.ref p3) ↔ IsWI (-1000000) 1000000 x ∧ IsWI 0 0 y := by
  constructor
  · rintro ⟨zs, q, _, f⟩
    rw [tupOf_ref e3] at q
    cases q
    exact (nest_node e1 e2).mp (f (.ref p2) (List.mem_singleton.mpr rfl))
  · intro w
    refine ⟨_, tupOf_ref e3, ⟨by show 1 ≤ 1; decide, by show 1 ≤ 120; decide⟩, fun z m => ?_⟩
    rw [List.mem_singleton.mp m]
    exact (nest_node e1 e2).mpr w
end
theorem flat_one {x : V} {n : Nat} : (List.replicate n [x]).flatten = List.replicate n x := by
  induction n with
  | zero => rfl
  | succ n ih =>
    rw [List.replicate_succ, List.replicate_succ, List.flatten_cons, ih]
    rfl
section
variable {P : Program} {w : World} {K : PySem.W.Frag} {mg : Str → Option Value} {base : Heap}
def spLaw (K : PySem.W.Frag) : Sp := fun vs H Q _ => ∃ (a : Addr) (ns : List Int), vs = [.ref a] ∧ SqL K H a (ns.map V.int) ∧ ns.length ≤ 63 ∧ ∀ H', Q (.bl true) H'
theorem ok_law (T : Top K mg) {f : Addr} {fd : FuncData} (F : Fun K "law" "law" s_law f fd) : FnOk P w K mg base CX0 7 f fd ["_law_script"] (spLaw K) := by
  have G__law_draw : FnOk P w K mg base CX0 2 T.f__law_draw T.d__law_draw ["_law_hand_here", "_law_size"] (spDraw 1000000000) := ok_draw T
  have G__law_hand : FnOk P w K mg base CX0 1 T.f__law_hand T.d__law_hand ["_law_script"] (spHand K) := ok__law_hand T
  have G__law_web : FnOk P w K mg base CX0 3 T.f__law_web T.d__law_web ["_law_hand_here", "_law_most"] spWebD := ok__law_web T
  have G__law_odd : FnOk P w K mg base CX0 3 T.f__law_odd T.d__law_odd ["_law_hand_here", "_law_many"] spOdd := ok__law_odd T
  have G__law_bent : FnOk P w K mg base CX0 4 T.f__law_bent T.d__law_bent ["_law_hand_here", "_law_web_here"] spBent := ok__law_bent T
  have G__law_is_web : FnOk P w K mg base CX0 2 T.f__law_is_web T.d__law_is_web ["_law_item"] spIsWeb := ok__law_is_web T
  have G_is_web : FnOk P w K mg base CX0 5 T.f_is_web T.d_is_web ["thing"] spWeb := ok_is_web T
  refine F.ok sc_law (fun vs H Q E h => ?_) (fun cdv A outer s H vs Q E hr h => ?_)
  · obtain ⟨a, ns, rfl, _⟩ := h
    rfl
  obtain ⟨a, ns, rfl, hS, l63, q⟩ := h
  refine ⟨_, (C8.pss_cut (ps_set (i := 1) sc_law.nd rfl (.inl rfl) (pe_call G__law_hand (hr.mono (by omega)) rfl T.D__law_hand.g T.D__law_hand.F.kp T.D__law_hand.b .nil pass0 (pa_cons (pv 0) pa_nil)))
    (C8.pss_cut (ps_for PassesOwn.never rfl (pi_range1 rfl T.b_range (pa_cons (pe_callB (call_max2 rfl) rfl T.b_max bt_max (pa_cons pe_int (pa_cons (pe_callB (call_min2 rfl) rfl T.b_min bt_min (pa_cons pe_int (pa_cons (pe_callB call_len_seq rfl T.b_len bt_len (pa_cons (pv 0) pa_nil)) pa_nil))) pa_nil))) pa_nil)) (pg_name (i := 2) sc_law.nd rfl (.inl rfl))
      (C8.pss_cut (ps_set (i := 3) sc_law.nd rfl (.inl rfl) (pe_call G__law_web (hr.mono (by omega)) rfl T.D__law_web.g T.D__law_web.F.kp T.D__law_web.b .nil pass0 (pa_cons (pv 1) (pa_cons pe_int pa_nil))))
      (C8.pss_cut (ps_if (PW.pt (pw_or (pt_cmpR op_notBl (pe_call G_is_web (hr.mono (by omega)) rfl T.D_is_web.g T.D_is_web.F.kp T.D_is_web.b .nil pass0 (pa_cons (pv 3) pa_nil)) pe_bl (nomark _)) (pw_or1 (pt_cmpR op_notBl (pe_callN0 G_is_web (hr.mono (by omega)) rfl T.D_is_web.g T.D_is_web.F.kp T.KN_is_web pass0 (pk_cons (pv 3) pk_nil)) pe_bl (nomark _)))))
        (pss_one (ps_ret pe_bl))
        pss_nil)
      (C8.pss_cut (ps_for PassesOwn.never rfl (pi_range1 rfl T.b_range (pa_cons pe_int pa_nil)) (pg_name (i := 4) sc_law.nd rfl (.inl rfl))
        (C8.pss_cut (ps_set (i := 5) sc_law.nd rfl (.inl rfl) (pe_call G__law_bent (hr.mono (by omega)) rfl T.D__law_bent.g T.D__law_bent.F.kp T.D__law_bent.b .nil pass0 (pa_cons (pv 1) (pa_cons (pv 3) pa_nil))))
        (C8.pss_cut (ps_set (i := 6) sc_law.nd rfl (.inl rfl) (pe_call G_is_web (hr.mono (by omega)) rfl T.D_is_web.g T.D_is_web.F.kp T.D_is_web.b .nil pass0 (pa_cons (pv 5) pa_nil)))
        (pss_one (ps_if (PW.pt (pw_or (pt_not (pt_val (pe_callB call_isi rfl T.b_isinstance bt_isinstance (pa_cons (pv 6) (pa_cons (pe_bltn (v := .ty "bool") rfl T.b_bool bt_bool rfl) pa_nil))))) (pw_or (pt_cmpR op_ne (pv 6) (pe_call G__law_is_web (hr.mono (by omega)) rfl T.D__law_is_web.g T.D__law_is_web.F.kp T.D__law_is_web.b .nil pass0 (pa_cons (pv 5) pa_nil)) (nomark _)) (pw_or1 (pt_cmpR op_ne (pe_callN0 G_is_web (hr.mono (by omega)) rfl T.D_is_web.g T.D_is_web.F.kp T.KN_is_web pass0 (pk_cons (pv 5) pk_nil)) (pv 6) (nomark _))))))
          (pss_one (ps_ret pe_bl))
          pss_nil)))))
      (pss_one (ps_for PassesOwn.never rfl (pi_list (pe_lst (pa_cons (pe_call G__law_odd (hr.mono (by omega)) rfl T.D__law_odd.g T.D__law_odd.F.kp T.D__law_odd.b .nil pass0 (pa_cons (pv 1) (pa_cons (pe_callB call_len_seq rfl T.b_len bt_len (pa_cons (pv 3) pa_nil)) pa_nil))) (pa_cons (pe_callTy call_list_of rfl T.b_list bt_list (pa_cons (pv 3) pa_nil)) (pa_cons (pe_disp (pps_cons pe_int (pv 3) pps_nil) rfl rfl (by simp) (by decide)) (pa_cons (pe_ix ix_tup (pv 3) pe_int (fun _ _ => rfl)) (pa_cons (pe_tup (pa_cons (pv 3) pa_nil)) pa_nil))))))) (pg_name (i := 7) sc_law.nd rfl (.inl rfl))
        (C8.pss_cut (ps_set (i := 6) sc_law.nd rfl (.inl rfl) (pe_call G_is_web (hr.mono (by omega)) rfl T.D_is_web.g T.D_is_web.F.kp T.D_is_web.b .nil pass0 (pa_cons (pv 7) pa_nil)))
        (pss_one (ps_if (PW.pt (pw_or (pt_not (pt_val (pe_callB call_isi rfl T.b_isinstance bt_isinstance (pa_cons (pv 6) (pa_cons (pe_bltn (v := .ty "bool") rfl T.b_bool bt_bool rfl) pa_nil))))) (pw_or1 (pt_cmpR op_ne (pv 6) (pe_call G__law_is_web (hr.mono (by omega)) rfl T.D__law_is_web.g T.D__law_is_web.F.kp T.D__law_is_web.b .nil pass0 (pa_cons (pv 7) pa_nil)) (nomark _)))))
          (pss_one (ps_ret pe_bl))
          pss_nil)))))))))
    (C8.pss_cut (ps_if (PW.pt (pw_or (pt_cmpR op_notBl (pe_call G_is_web (hr.mono (by omega)) rfl T.D_is_web.g T.D_is_web.F.kp T.D_is_web.b .nil pass0 (pa_cons (pe_tup (pa_cons (pe_tup (pa_cons (pe_tup (pa_cons pe_int (pa_cons pe_int pa_nil))) pa_nil)) pa_nil)) pa_nil)) pe_bl (nomark _)) (pw_or1 (pt_cmpR op_notBl (pe_call G_is_web (hr.mono (by omega)) rfl T.D_is_web.g T.D_is_web.F.kp T.D_is_web.b .nil pass0 (pa_cons (pe_tup (pa_cons (pe_tup (pa_cons (pe_tup (pa_cons pe_bl (pa_cons pe_int pa_nil))) pa_nil)) pa_nil)) pa_nil)) pe_bl (nomark _)))))
      (pss_one (ps_ret pe_bl))
      pss_nil)
    (C8.pss_cut (ps_if (pt_cmpR op_notBl (pe_call G_is_web (hr.mono (by omega)) rfl T.D_is_web.g T.D_is_web.F.kp T.D_is_web.b .nil pass0 (pa_cons (pe_tup (pa_cons (pe_tup (pa_cons (pe_tup (pa_cons pe_int (pa_cons pe_bl pa_nil))) pa_nil)) pa_nil)) pa_nil)) pe_bl (nomark _))
      (pss_one (ps_ret pe_bl))
      pss_nil)
    (C8.pss_cut (ps_set (i := 8) sc_law.nd rfl (.inl rfl) (pe_ix ix_list (pe_lst (pa_cons pe_int (pa_cons pe_int (pa_cons pe_int pa_nil)))) (pe_call G__law_draw (hr.mono (by omega)) rfl T.D__law_draw.g T.D__law_draw.F.kp T.D__law_draw.b .nil pass0 (pa_cons (pv 1) (pa_cons pe_int pa_nil))) (fun _ _ => rfl)))
    (C8.pss_cut (ps_set (i := 6) sc_law.nd rfl (.inl rfl) (pe_call G_is_web (hr.mono (by omega)) rfl T.D_is_web.g T.D_is_web.F.kp T.D_is_web.b .nil pass0 (pa_cons (pe_op op_repT (pe_tup (pa_cons (pe_tup (pa_cons (pe_tup (pa_cons pe_int (pa_cons (pe_op op_sub (pv 8) pe_int) pa_nil))) pa_nil)) pa_nil)) (pv 8)) pa_nil)))
    (pss_one (ps_ret (pe_and (pe_callB call_isi rfl T.b_isinstance bt_isinstance (pa_cons (pv 6) (pa_cons (pe_bltn (v := .ty "bool") rfl T.b_bool bt_bool rfl) pa_nil))) (pe_one (pe_cmpR op_eq (pv 6) (pe_cmpR op_lt (pv 8) pe_int (nomark _)) (nomark _)))))))))))), ?_⟩
  -- the hand
  refine ⟨fun σ H' => ∃ h c, σ = [some (.ref a), some (.ref h), none, none, none, none, none, none, none] ∧ Hand h c H' ∧ SqL K H' a (ns.map V.int), ?_, ?_⟩
  · exact ⟨.ref a, rfl, a, ns, rfl, hS, fun h c H1 s1 a1 _ => ⟨h, c, rfl, a1, s1.seq hS⟩⟩
  rintro σ H1 ⟨h, c, rfl, a1, hS1⟩
  -- the turns
  refine ⟨fun σ H' => (∃ y2 y3 y4 y5 y6 y7 y8, σ = [some (.ref a), some (.ref h), y2, y3, y4, y5, y6, y7, y8]) ∧ Hand h c H', ?_, ?_⟩
  · refine ⟨.ref a, rfl, a, _, rfl, .inl hS1, 5, _, rfl, 1, _, rfl, _, rfl, ?_, ?_, for_range (fun i σ H' => (∃ y2 y3 y4 y5 y6 y7 y8, σ = [some (.ref a), some (.ref h), y2, y3, y4, y5, y6, y7, y8]) ∧ Hand h c H') ⟨⟨_, _, _, _, _, _, _, rfl⟩, a1⟩ (fun i σ H2 _ p => ?_) (fun σ H2 p => p)⟩
    · split <;> split <;> omega
    · split <;> split <;> omega
    obtain ⟨⟨y2, y3, y4, y5, y6, y7, y8, rfl⟩, a2⟩ := p
    -- a web
    refine ⟨fun σ H' => ∃ v, σ = [some (.ref a), some (.ref h), some (.int (0 + (i : Int))), some v, y4, y5, y6, y7, y8] ∧ Hand h c H' ∧ IsWeb H' v, ?_, ?_⟩
    · exact ⟨.ref h, rfl, h, c, 6, rfl, by decide, by decide, a2, fun v H3 b3 a3 w3 => ⟨v, rfl, a3, w3⟩⟩
    rintro σ H3 ⟨v, rfl, a3, w3⟩
    have k3 : Kn h H3 v := w3.kn
    -- it is one
    refine ⟨fun σ H' => σ = [some (.ref a), some (.ref h), some (.int (0 + (i : Int))), some v, y4, y5, y6, y7, y8] ∧ Hand h c H' ∧ IsWeb H' v, ?_, ?_⟩
    · refine ⟨v, rfl, h, v, rfl, k3, fun b H4 s4 hb => ⟨b, true, rfl, rfl, _, rfl, ite2 (fun z => absurd z (not_wrong (hb.mpr w3))) (fun _ => ?_)⟩⟩
      refine ⟨v, rfl, rfl, rfl, h, v, rfl, k3.same s4, fun b2 H5 s5 hb2 => ⟨b2, true, rfl, rfl, _, rfl, ite2 (fun z => absurd z (not_wrong (hb2.mpr ((Tu.same s4).web w3)))) (fun _ => ?_)⟩⟩
      exact ⟨rfl, (a3.same s4).same s5, (Tu.same s5).web ((Tu.same s4).web w3)⟩
    rintro σ H4 ⟨rfl, a4, w4⟩
    -- bent ones
    refine ⟨fun σ H' => (∃ y4 y5 y6 y7 y8, σ = [some (.ref a), some (.ref h), some (.int (0 + (i : Int))), some v, y4, y5, y6, y7, y8]) ∧ Hand h c H' ∧ IsWeb H' v, ?_, ?_⟩
    · refine ⟨12, rfl, by decide, by decide, for_range (fun _ σ H' => (∃ y4 y5 y6 y7 y8, σ = [some (.ref a), some (.ref h), some (.int (0 + (i : Int))), some v, y4, y5, y6, y7, y8]) ∧ Hand h c H' ∧ IsWeb H' v) ⟨⟨_, _, _, _, _, rfl⟩, a4, w4⟩ (fun j σ H5 _ p => ?_) (fun σ H5 p => p)⟩
      obtain ⟨⟨z4, z5, z6, z7, z8, rfl⟩, a5, w5⟩ := p
      refine ⟨fun σ H' => ∃ u, σ = [some (.ref a), some (.ref h), some (.int (0 + (i : Int))), some v, some (.int (0 + (j : Int))), some u, z6, z7, z8] ∧ Hand h c H' ∧ IsWeb H' v ∧ Kn h H' u, ?_, ?_⟩
      · exact ⟨.ref h, rfl, v, rfl, h, c, v, rfl, a5, w5, fun u H6 b6 a6 k6 => ⟨u, rfl, a6, (Tu.but a5.isL b6).web w5, k6⟩⟩
      rintro σ H6 ⟨u, rfl, a6, w6, k6⟩
      refine ⟨fun σ H' => ∃ b : Bool, σ = [some (.ref a), some (.ref h), some (.int (0 + (i : Int))), some v, some (.int (0 + (j : Int))), some u, some (.bl b), z7, z8] ∧ Hand h c H' ∧ IsWeb H' v ∧ Kn h H' u ∧ (b = true ↔ IsWeb H' u), ?_, ?_⟩
      · exact ⟨u, rfl, h, u, rfl, k6, fun b H7 s7 hb => ⟨b, rfl, a6.same s7, (Tu.same s7).web w6, k6.same s7, hb.trans (k6.isWeb s7).symm⟩⟩
      rintro σ H7 ⟨b, rfl, a7, w7, k7, hb⟩
      refine ⟨.bl b, rfl, .bl b, .ty "bool", _, .type "bool", true, rfl, .ty "bool", .base (.bl b), kit_ty (by show kitB _ _ = some true; decide +kernel), true, rfl, ite2 (fun z => absurd z Bool.false_ne_true) (fun _ => ?_)⟩
      refine ⟨.bl b, rfl, u, rfl, h, u, rfl, k7, fun b2 hb2 => ⟨rfl, _, rfl, ite2 (fun z => absurd z (ne_wrong (bl_eq hb hb2))) (fun _ => ?_)⟩⟩
      refine ⟨u, rfl, rfl, rfl, h, u, rfl, k7, fun b3 H8 s8 hb3 => ⟨.bl b, rfl, rfl, _, rfl, ite2 (fun z => absurd z (ne_wrong (bl_eq hb3 hb))) (fun _ => ?_)⟩⟩
      exact ⟨⟨_, _, _, _, _, rfl⟩, a7.same s8, (Tu.same s8).web w7⟩
    rintro σ H5 ⟨⟨z4, z5, z6, z7, z8, rfl⟩, a5, w5⟩
    -- odd ones
    obtain ⟨xs, ev, zx, fx⟩ := id w5
    obtain ⟨wa, rfl, ewa⟩ := tupOf_some ev
    have nwh : wa ≠ h := a5.isL.ne ewa (fun _ z => nomatch z)
    refine ⟨.ref h, rfl, .ref wa, rfl, wa, xs, rfl, .inr (SqT.of ewa), h, c, _, rfl, a5, fun o H6 b6 a6 ko => ?_⟩
    have ew6 := b6 _ _ nwh ewa
    have w6 := (Tu.but a5.isL b6).web w5
    refine ⟨.ref wa, rfl, wa, xs, rfl, .inr (SqT.of ew6), fun l hl => ?_⟩
    have s7 := same_upd (o := .lst xs) hl
    have nlh := (a6.ne hl).1
    refine fun d hd => ⟨.ref wa, rfl, upd_same, [(.inl 0, .ref wa)], rfl, (by show 1 ≤ 15; decide), ?_⟩
    have s8a := same_upd (o := .dK []) hd
    have s8 : ∀ o', Same (upd H6 l (.lst xs)) (upd (upd (upd H6 l (.lst xs)) d (.dK [])) d o') := fun o' b u e => by
      rw [upd_ne (ne_of_none e hd), upd_ne (ne_of_none e hd)]
      exact e
    obtain ⟨n0, en0⟩ : ∃ n0, xs[0]? = some n0 := ⟨_, List.getElem?_eq_getElem (show 0 < xs.length by omega)⟩
    have mn0 : n0 ∈ xs := List.mem_of_getElem? en0
    refine ⟨.ref wa, rfl, wa, xs, 0, n0, rfl, rfl, SqT.of (s8 _ _ _ (s7 _ _ ew6)), atI_nat (j := 0) en0, .ref wa, rfl, (by show 1 ≤ sizeLine; decide), fun t ht => ⟨(by show 5 ≤ sizeLine; decide), fun p hp => ?_⟩⟩
    have s9 := same_upd (o := .tup [.ref wa]) ht
    have s10 := same_upd (o := .lst [o, .ref l, .ref d, n0, .ref t]) hp
    have sall := s7.trans ((s8 _).trans (s9.trans s10))
    have wall := (Tu.same sall).web w6
    have ki : ∀ x ∈ [o, V.ref l, .ref d, n0, .ref t], Kn h (upd (upd (upd (upd (upd H6 l (.lst xs)) d (.dK [])) d (.dK (mergeK [] [(.inl 0, .ref wa)]))) t (.tup [.ref wa])) p (.lst [o, .ref l, .ref d, n0, .ref t])) x := fun x m => by
      rcases List.mem_cons.mp m with rfl | m
      · exact ko.same sall
      rcases List.mem_cons.mp m with rfl | m
      · exact .lst l xs nlh (s10 _ _ (s9 _ _ (s8 _ _ _ upd_same)))
      rcases List.mem_cons.mp m with rfl | m
      · exact .dct d _ (s10 _ _ (s9 _ _ upd_same))
      rcases List.mem_cons.mp m with rfl | m
      · exact (((Tu.but a5.isL b6).node (fx _ mn0)).kn (h := h)).same sall
      · rw [List.mem_singleton.mp m]
        exact .tup t _ (s10 _ _ upd_same) (by show 1 ≤ 1000; decide) fun z m => by
          rw [List.mem_singleton.mp m]
          exact wall.kn
    refine ⟨p, rfl, ⟨_, SqL.of upd_same⟩, for_list (xs := [o, .ref l, .ref d, n0, .ref t]) (fun _ σ H' => (∃ y4 y5 y6 y7 y8, σ = [some (.ref a), some (.ref h), some (.int (0 + (i : Int))), some (.ref wa), y4, y5, y6, y7, y8]) ∧ Hand h c H' ∧ H' p = some (.lst [o, .ref l, .ref d, n0, .ref t]) ∧ ∀ x ∈ [o, V.ref l, .ref d, n0, .ref t], Kn h H' x)
      ⟨⟨_, _, _, _, _, rfl⟩, a6.same sall, upd_same, ki⟩ (fun j σ H' _ p => SqL.of p.2.2.1) (fun j x σ H7 hx p => ?_) (fun σ H7 p => ?_)⟩
    · obtain ⟨⟨u4, u5, u6, u7, u8, rfl⟩, a7, ep7, k7⟩ := p
      have kx := k7 x (List.mem_of_getElem? hx)
      refine ⟨fun σ H' => ∃ b : Bool, σ = [some (.ref a), some (.ref h), some (.int (0 + (i : Int))), some (.ref wa), u4, u5, some (.bl b), some x, u8] ∧ Same H7 H' ∧ (b = true ↔ IsWeb H' x), ?_, ?_⟩
      · exact ⟨x, rfl, h, x, rfl, kx, fun b H8 s8 hb => ⟨b, rfl, s8, hb.trans (kx.isWeb s8).symm⟩⟩
      rintro σ H8 ⟨b, rfl, sx, hb⟩
      refine ⟨.bl b, rfl, .bl b, .ty "bool", _, .type "bool", true, rfl, .ty "bool", .base (.bl b), kit_ty (by show kitB _ _ = some true; decide +kernel), true, rfl, ite2 (fun z => absurd z Bool.false_ne_true) (fun _ => ?_)⟩
      refine ⟨.bl b, rfl, x, rfl, h, x, rfl, kx.same sx, fun b2 hb2 => ⟨rfl, _, rfl, ite2 (fun z => absurd z (ne_wrong (bl_eq hb hb2))) (fun _ => ?_)⟩⟩
      exact ⟨⟨_, _, _, _, _, rfl⟩, a7.same sx, sx _ _ ep7, fun y m => (k7 y m).same sx⟩
    · obtain ⟨⟨u4, u5, u6, u7, u8, rfl⟩, a7, _, _⟩ := p
      exact ⟨⟨_, _, _, _, _, _, _, rfl⟩, a7⟩
  rintro σ H2 ⟨⟨y2, y3, y4, y5, y6, y7, y8, rfl⟩, a2⟩
  -- two small ones
  refine ⟨fun σ H' => σ = [some (.ref a), some (.ref h), y2, y3, y4, y5, y6, y7, y8] ∧ Hand h c H', ?_, ?_⟩
  · refine ⟨(by show 2 ≤ sizeLine; decide), fun p1 h1 => ⟨(by show 1 ≤ sizeLine; decide), fun p2 h2 => ⟨(by show 1 ≤ sizeLine; decide), fun p3 h3 => ?_⟩⟩⟩
    have s1 := same_upd (o := .tup [.int 1, .int 0]) h1
    have s2 := same_upd (o := .tup [.ref p1]) h2
    have s3 := same_upd (o := .tup [.ref p2]) h3
    have e1 := s3 _ _ (s2 _ _ (upd_same (H := H2) (a := p1) (o := .tup [.int 1, .int 0])))
    have e2 := s3 _ _ (upd_same (H := (upd H2 p1 (.tup [.int 1, .int 0]))) (a := p2) (o := .tup [.ref p1]))
    have a3 := a2.same (s1.trans (s2.trans s3))
    refine ⟨h, .ref p3, rfl, nest_kn e1 e2 upd_same (.int 1) (.int 0), fun b H3 s4 hb => ⟨b, true, rfl, rfl, _, rfl, ite2 (fun z => absurd z (not_wrong (hb.mpr ((nest_web e1 e2 upd_same).mpr ⟨⟨1, rfl, by decide, by decide⟩, ⟨0, rfl, by decide, by decide⟩⟩)))) (fun _ => ?_)⟩⟩
    refine ⟨(by show 2 ≤ sizeLine; decide), fun p1 h1 => ⟨(by show 1 ≤ sizeLine; decide), fun p2 h2 => ⟨(by show 1 ≤ sizeLine; decide), fun p3 h3 => ?_⟩⟩⟩
    have s1 := same_upd (o := .tup [.bl true, .int 0]) h1
    have s2 := same_upd (o := .tup [.ref p1]) h2
    have s3 := same_upd (o := .tup [.ref p2]) h3
    have e1 := s3 _ _ (s2 _ _ (upd_same (H := H3) (a := p1) (o := .tup [.bl true, .int 0])))
    have e2 := s3 _ _ (upd_same (H := (upd H3 p1 (.tup [.bl true, .int 0]))) (a := p2) (o := .tup [.ref p1]))
    have a4 := (a3.same s4).same (s1.trans (s2.trans s3))
    refine ⟨h, .ref p3, rfl, nest_kn e1 e2 upd_same (.bl true) (.int 0), fun b H4 s5 hb => ⟨b, false, rfl, rfl, _, rfl, ite2 (fun z => ?_) (fun _ => ⟨rfl, a4.same s5⟩)⟩⟩
    have : b = false := by
      cases b with
      | false => rfl
      | true =>
        obtain ⟨⟨k, e, _⟩, _⟩ := (nest_web e1 e2 upd_same).mp (hb.mp rfl)
        cases e
    rw [this] at z
    exact absurd z Bool.false_ne_true
  rintro σ H3 ⟨rfl, a3⟩
  -- one more
  refine ⟨fun σ H' => σ = [some (.ref a), some (.ref h), y2, y3, y4, y5, y6, y7, y8] ∧ Hand h c H', ?_, ?_⟩
  · refine ⟨(by show 2 ≤ sizeLine; decide), fun p1 h1 => ⟨(by show 1 ≤ sizeLine; decide), fun p2 h2 => ⟨(by show 1 ≤ sizeLine; decide), fun p3 h3 => ?_⟩⟩⟩
    have s1 := same_upd (o := .tup [.int 1, .bl false]) h1
    have s2 := same_upd (o := .tup [.ref p1]) h2
    have s3 := same_upd (o := .tup [.ref p2]) h3
    have e1 := s3 _ _ (s2 _ _ (upd_same (H := H3) (a := p1) (o := .tup [.int 1, .bl false])))
    have e2 := s3 _ _ (upd_same (H := (upd H3 p1 (.tup [.int 1, .bl false]))) (a := p2) (o := .tup [.ref p1]))
    have a4 := a3.same (s1.trans (s2.trans s3))
    refine ⟨h, .ref p3, rfl, nest_kn e1 e2 upd_same (.int 1) (.bl false), fun b H4 s5 hb => ⟨b, false, rfl, rfl, _, rfl, ite2 (fun z => ?_) (fun _ => ⟨rfl, a4.same s5⟩)⟩⟩
    have : b = false := by
      cases b with
      | false => rfl
      | true =>
        obtain ⟨_, ⟨k, e, _⟩⟩ := (nest_web e1 e2 upd_same).mp (hb.mp rfl)
        cases e
    rw [this] at z
    exact absurd z Bool.false_ne_true
  rintro σ H4 ⟨rfl, a4⟩
  -- many
  refine ⟨fun σ H' => ∃ many : Int, σ = [some (.ref a), some (.ref h), y2, y3, y4, y5, y6, y7, some (.int many)] ∧ Hand h c H' ∧ (119 ≤ many ∧ many ≤ 121), ?_, ?_⟩
  · refine ⟨(by show 3 ≤ sizeLine; decide), fun p hp => ⟨.ref h, rfl, h, c, 3, rfl, by decide, by decide, a4.same (same_upd hp), fun x H5 x0 x1 b5 a5 => ?_⟩⟩
    have ep : H5 p = some (.lst [.int 119, .int 120, .int 121]) := b5 p _ (a4.ne hp).1 upd_same
    obtain ⟨v, mv, ev⟩ := atI_mem (xs := [V.int 119, .int 120, .int 121]) x0 x1
    refine ⟨p, _, x, v, rfl, rfl, SqL.of ep, ev, ?_⟩
    rcases List.mem_cons.mp mv with rfl | mv
    · exact ⟨119, rfl, a5, by decide, by decide⟩
    rcases List.mem_cons.mp mv with rfl | mv
    · exact ⟨120, rfl, a5, by decide, by decide⟩
    · rw [List.mem_singleton.mp mv]
      exact ⟨121, rfl, a5, by decide, by decide⟩
  rintro σ H5 ⟨many, rfl, a5, m0, m1⟩
  -- a long one
  refine ⟨fun σ H' => σ = [some (.ref a), some (.ref h), y2, y3, y4, y5, some (.bl (decide (many < 121))), y7, some (.int many)], ?_, ?_⟩
  · refine ⟨.int many, rfl, many, 1, rfl, rfl, (by show 2 ≤ sizeLine; decide), fun p1 h1 => ⟨(by show 1 ≤ sizeLine; decide), fun p2 h2 => ⟨(by show 1 ≤ sizeLine; decide), fun p3 h3 => ?_⟩⟩⟩
    have s2 := same_upd (o := .tup [.ref p1]) h2
    have s3 := same_upd (o := .tup [.ref p2]) h3
    have e1 := s3 _ _ (s2 _ _ (upd_same (H := H5) (a := p1) (o := .tup [.int 0, .int (many - 1)])))
    have e2 := s3 _ _ (upd_same (H := (upd H5 p1 (.tup [.int 0, .int (many - 1)]))) (a := p2) (o := .tup [.ref p1]))
    refine ⟨.int many, rfl, p3, many, [.ref p2], rfl, rfl, SqT.of upd_same, (fun z => nomatch z), by omega, by omega, (by show 1 ≤ 1000; decide), fun p4 h4 => ?_⟩
    rw [flat_one]
    have s4 := same_upd (o := .tup (List.replicate many.toNat (.ref p2))) h4
    have e1' := s4 _ _ e1
    have e2' := s4 _ _ e2
    have lr : (List.replicate many.toNat (V.ref p2)).length = many.toNat := List.length_replicate
    refine ⟨h, .ref p4, rfl, .tup p4 _ upd_same (by omega) (fun z m => ?_), fun b H6 s5 hb => ?_⟩
    · rw [(List.mem_replicate.mp m).2]
      exact .tup p2 _ e2' (by show 1 ≤ 1000; decide) fun z m => by
        rw [List.mem_singleton.mp m]
        refine .tup p1 _ e1' (by show 2 ≤ 1000; decide) fun z m => ?_
        rcases List.mem_cons.mp m with rfl | m
        · exact .int 0
        · rw [List.mem_singleton.mp m]
          exact .int _
    · have eb : b = decide (many < 121) := by
        rw [Bool.eq_iff_iff, hb, decide_eq_true_iff]
        constructor
        · rintro ⟨zs, ez, z, _⟩
          rw [tupOf_ref upd_same] at ez
          cases ez
          omega
        · intro hm
          refine ⟨_, tupOf_ref upd_same, by omega, fun z m => ?_⟩
          rw [(List.mem_replicate.mp m).2]
          exact (nest_node e1' e2').mpr ⟨⟨0, rfl, by decide, by decide⟩, ⟨many - 1, rfl, by omega, by omega⟩⟩
      rw [eb]
      rfl
  rintro σ H6 rfl
  refine ⟨.bl _, rfl, .bl _, .ty "bool", _, .type "bool", true, rfl, .ty "bool", .base (.bl _), kit_ty (by show kitB _ _ = some true; decide +kernel), true, rfl, iteT ?_⟩
  refine ⟨.bl _, rfl, .int many, rfl, many, 121, rfl, rfl, rfl, ?_⟩
  have e : decide (V.bl (decide (many < 121)) = V.bl (decide (many < 121))) = true := decide_eq_true rfl
  have fin : Q (.bl (decide (V.bl (decide (many < 121)) = V.bl (decide (many < 121))))) H6 := by
    rw [e]
    exact q H6
  exact fin
end
end K01

set_option Elab.async false
set_option linter.all false
set_option maxRecDepth 100000
set_option maxHeartbeats 4000000
namespace K01
open PySem PySem.Spec PyProof.Rows L2
theorem defAt_mk {h : Heap} {K : PySem.W.Frag} {mg : Str → Option Value} {x : Str} {st : Stmt} {ps : List Str} {f : Addr} {oc : Value} {od an : Option Addr} {osl : Array (Option Value)} {kV doc pm cdv ct : Value} (X : K.In h) (G : h.Ns mainGlobals mg)
    (a : PySem.W.nsIn K mainGlobals x = some (some (.ref f))) (l : K.lookup f = some ⟨oc, od, .func (PySem.W.fnOf x x (defArgs st) (defBody st) (defScope st) .none kV doc pm an cdv ct), osl⟩) (c : PySem.W.codeIn K cdv x = true) (k : PySem.W.keepIn K (.ref f) = true)
    (hb : ∀ (kV doc pm : Value) (an : Option Addr) (cdv ct : Value) (us : List Value), us.length = ps.length → bindArgs (PySem.W.fnOf x x (defArgs st) (defBody st) (defScope st) .none kV doc pm an cdv ct) ⟨us, []⟩ = pure (ps.zip us)) :
    DefAt K mg x st ps f (PySem.W.fnOf x x (defArgs st) (defBody st) (defScope st) .none kV doc pm an cdv ct) :=
  ⟨fun_mk l c k, PySem.W.mg_of X G a, (fun_mk l c k).binds hb⟩
theorem all_mk {l : PySem.W.OpenLaw} {w : World} {K : PySem.W.Frag} {h : Heap} {mg : Str → Option Value} {fa : Addr} (X : K.In h) (G : h.Ns mainGlobals mg) (hfa : mg "law" = some (.ref fa))
    {f_is_whole : Addr} {oc_is_whole : Value} {od_is_whole an_is_whole : Option Addr} {sl_is_whole : Array (Option Value)} {kV_is_whole dc_is_whole pm_is_whole cd_is_whole ct_is_whole : Value}
    (a_is_whole : PySem.W.nsIn K mainGlobals "is_whole" = some (some (.ref f_is_whole))) (l_is_whole : K.lookup f_is_whole = some ⟨oc_is_whole, od_is_whole, .func (PySem.W.fnOf "is_whole" "is_whole" (defArgs s_is_whole) (defBody s_is_whole) (defScope s_is_whole) .none kV_is_whole dc_is_whole pm_is_whole an_is_whole cd_is_whole ct_is_whole), sl_is_whole⟩) (c_is_whole : PySem.W.codeIn K cd_is_whole "is_whole" = true) (k_is_whole : PySem.W.keepIn K (.ref f_is_whole) = true)
    {f_is_whole_in : Addr} {oc_is_whole_in : Value} {od_is_whole_in an_is_whole_in : Option Addr} {sl_is_whole_in : Array (Option Value)} {kV_is_whole_in dc_is_whole_in pm_is_whole_in cd_is_whole_in ct_is_whole_in : Value}
    (a_is_whole_in : PySem.W.nsIn K mainGlobals "is_whole_in" = some (some (.ref f_is_whole_in))) (l_is_whole_in : K.lookup f_is_whole_in = some ⟨oc_is_whole_in, od_is_whole_in, .func (PySem.W.fnOf "is_whole_in" "is_whole_in" (defArgs s_is_whole_in) (defBody s_is_whole_in) (defScope s_is_whole_in) .none kV_is_whole_in dc_is_whole_in pm_is_whole_in an_is_whole_in cd_is_whole_in ct_is_whole_in), sl_is_whole_in⟩) (c_is_whole_in : PySem.W.codeIn K cd_is_whole_in "is_whole_in" = true) (k_is_whole_in : PySem.W.keepIn K (.ref f_is_whole_in) = true)
    {f_is_pair : Addr} {oc_is_pair : Value} {od_is_pair an_is_pair : Option Addr} {sl_is_pair : Array (Option Value)} {kV_is_pair dc_is_pair pm_is_pair cd_is_pair ct_is_pair : Value}
    (a_is_pair : PySem.W.nsIn K mainGlobals "is_pair" = some (some (.ref f_is_pair))) (l_is_pair : K.lookup f_is_pair = some ⟨oc_is_pair, od_is_pair, .func (PySem.W.fnOf "is_pair" "is_pair" (defArgs s_is_pair) (defBody s_is_pair) (defScope s_is_pair) .none kV_is_pair dc_is_pair pm_is_pair an_is_pair cd_is_pair ct_is_pair), sl_is_pair⟩) (c_is_pair : PySem.W.codeIn K cd_is_pair "is_pair" = true) (k_is_pair : PySem.W.keepIn K (.ref f_is_pair) = true)
    {f_is_web : Addr} {oc_is_web : Value} {od_is_web an_is_web : Option Addr} {sl_is_web : Array (Option Value)} {kV_is_web dc_is_web pm_is_web cd_is_web ct_is_web : Value}
    (a_is_web : PySem.W.nsIn K mainGlobals "is_web" = some (some (.ref f_is_web))) (l_is_web : K.lookup f_is_web = some ⟨oc_is_web, od_is_web, .func (PySem.W.fnOf "is_web" "is_web" (defArgs s_is_web) (defBody s_is_web) (defScope s_is_web) .none kV_is_web dc_is_web pm_is_web an_is_web cd_is_web ct_is_web), sl_is_web⟩) (c_is_web : PySem.W.codeIn K cd_is_web "is_web" = true) (k_is_web : PySem.W.keepIn K (.ref f_is_web) = true)
    {f_is_node : Addr} {oc_is_node : Value} {od_is_node an_is_node : Option Addr} {sl_is_node : Array (Option Value)} {kV_is_node dc_is_node pm_is_node cd_is_node ct_is_node : Value}
    (a_is_node : PySem.W.nsIn K mainGlobals "is_node" = some (some (.ref f_is_node))) (l_is_node : K.lookup f_is_node = some ⟨oc_is_node, od_is_node, .func (PySem.W.fnOf "is_node" "is_node" (defArgs s_is_node) (defBody s_is_node) (defScope s_is_node) .none kV_is_node dc_is_node pm_is_node an_is_node cd_is_node ct_is_node), sl_is_node⟩) (c_is_node : PySem.W.codeIn K cd_is_node "is_node" = true) (k_is_node : PySem.W.keepIn K (.ref f_is_node) = true)
    {f_is_move : Addr} {oc_is_move : Value} {od_is_move an_is_move : Option Addr} {sl_is_move : Array (Option Value)} {kV_is_move dc_is_move pm_is_move cd_is_move ct_is_move : Value}
    (a_is_move : PySem.W.nsIn K mainGlobals "is_move" = some (some (.ref f_is_move))) (l_is_move : K.lookup f_is_move = some ⟨oc_is_move, od_is_move, .func (PySem.W.fnOf "is_move" "is_move" (defArgs s_is_move) (defBody s_is_move) (defScope s_is_move) .none kV_is_move dc_is_move pm_is_move an_is_move cd_is_move ct_is_move), sl_is_move⟩) (c_is_move : PySem.W.codeIn K cd_is_move "is_move" = true) (k_is_move : PySem.W.keepIn K (.ref f_is_move) = true)
    {f__law_hand : Addr} {oc__law_hand : Value} {od__law_hand an__law_hand : Option Addr} {sl__law_hand : Array (Option Value)} {kV__law_hand dc__law_hand pm__law_hand cd__law_hand ct__law_hand : Value}
    (a__law_hand : PySem.W.nsIn K mainGlobals "_law_hand" = some (some (.ref f__law_hand))) (l__law_hand : K.lookup f__law_hand = some ⟨oc__law_hand, od__law_hand, .func (PySem.W.fnOf "_law_hand" "_law_hand" (defArgs s__law_hand) (defBody s__law_hand) (defScope s__law_hand) .none kV__law_hand dc__law_hand pm__law_hand an__law_hand cd__law_hand ct__law_hand), sl__law_hand⟩) (c__law_hand : PySem.W.codeIn K cd__law_hand "_law_hand" = true) (k__law_hand : PySem.W.keepIn K (.ref f__law_hand) = true)
    {f__law_draw : Addr} {oc__law_draw : Value} {od__law_draw an__law_draw : Option Addr} {sl__law_draw : Array (Option Value)} {kV__law_draw dc__law_draw pm__law_draw cd__law_draw ct__law_draw : Value}
    (a__law_draw : PySem.W.nsIn K mainGlobals "_law_draw" = some (some (.ref f__law_draw))) (l__law_draw : K.lookup f__law_draw = some ⟨oc__law_draw, od__law_draw, .func (PySem.W.fnOf "_law_draw" "_law_draw" (defArgs s__law_draw) (defBody s__law_draw) (defScope s__law_draw) .none kV__law_draw dc__law_draw pm__law_draw an__law_draw cd__law_draw ct__law_draw), sl__law_draw⟩) (c__law_draw : PySem.W.codeIn K cd__law_draw "_law_draw" = true) (k__law_draw : PySem.W.keepIn K (.ref f__law_draw) = true)
    {f__law_web : Addr} {oc__law_web : Value} {od__law_web an__law_web : Option Addr} {sl__law_web : Array (Option Value)} {kV__law_web dc__law_web pm__law_web cd__law_web ct__law_web : Value}
    (a__law_web : PySem.W.nsIn K mainGlobals "_law_web" = some (some (.ref f__law_web))) (l__law_web : K.lookup f__law_web = some ⟨oc__law_web, od__law_web, .func (PySem.W.fnOf "_law_web" "_law_web" (defArgs s__law_web) (defBody s__law_web) (defScope s__law_web) .none kV__law_web dc__law_web pm__law_web an__law_web cd__law_web ct__law_web), sl__law_web⟩) (c__law_web : PySem.W.codeIn K cd__law_web "_law_web" = true) (k__law_web : PySem.W.keepIn K (.ref f__law_web) = true)
    {f__law_is_number : Addr} {oc__law_is_number : Value} {od__law_is_number an__law_is_number : Option Addr} {sl__law_is_number : Array (Option Value)} {kV__law_is_number dc__law_is_number pm__law_is_number cd__law_is_number ct__law_is_number : Value}
    (a__law_is_number : PySem.W.nsIn K mainGlobals "_law_is_number" = some (some (.ref f__law_is_number))) (l__law_is_number : K.lookup f__law_is_number = some ⟨oc__law_is_number, od__law_is_number, .func (PySem.W.fnOf "_law_is_number" "_law_is_number" (defArgs s__law_is_number) (defBody s__law_is_number) (defScope s__law_is_number) .none kV__law_is_number dc__law_is_number pm__law_is_number an__law_is_number cd__law_is_number ct__law_is_number), sl__law_is_number⟩) (c__law_is_number : PySem.W.codeIn K cd__law_is_number "_law_is_number" = true) (k__law_is_number : PySem.W.keepIn K (.ref f__law_is_number) = true)
    {f__law_is_web : Addr} {oc__law_is_web : Value} {od__law_is_web an__law_is_web : Option Addr} {sl__law_is_web : Array (Option Value)} {kV__law_is_web dc__law_is_web pm__law_is_web cd__law_is_web ct__law_is_web : Value}
    (a__law_is_web : PySem.W.nsIn K mainGlobals "_law_is_web" = some (some (.ref f__law_is_web))) (l__law_is_web : K.lookup f__law_is_web = some ⟨oc__law_is_web, od__law_is_web, .func (PySem.W.fnOf "_law_is_web" "_law_is_web" (defArgs s__law_is_web) (defBody s__law_is_web) (defScope s__law_is_web) .none kV__law_is_web dc__law_is_web pm__law_is_web an__law_is_web cd__law_is_web ct__law_is_web), sl__law_is_web⟩) (c__law_is_web : PySem.W.codeIn K cd__law_is_web "_law_is_web" = true) (k__law_is_web : PySem.W.keepIn K (.ref f__law_is_web) = true)
    {f__law_odd : Addr} {oc__law_odd : Value} {od__law_odd an__law_odd : Option Addr} {sl__law_odd : Array (Option Value)} {kV__law_odd dc__law_odd pm__law_odd cd__law_odd ct__law_odd : Value}
    (a__law_odd : PySem.W.nsIn K mainGlobals "_law_odd" = some (some (.ref f__law_odd))) (l__law_odd : K.lookup f__law_odd = some ⟨oc__law_odd, od__law_odd, .func (PySem.W.fnOf "_law_odd" "_law_odd" (defArgs s__law_odd) (defBody s__law_odd) (defScope s__law_odd) .none kV__law_odd dc__law_odd pm__law_odd an__law_odd cd__law_odd ct__law_odd), sl__law_odd⟩) (c__law_odd : PySem.W.codeIn K cd__law_odd "_law_odd" = true) (k__law_odd : PySem.W.keepIn K (.ref f__law_odd) = true)
    {f__law_put : Addr} {oc__law_put : Value} {od__law_put an__law_put : Option Addr} {sl__law_put : Array (Option Value)} {kV__law_put dc__law_put pm__law_put cd__law_put ct__law_put : Value}
    (a__law_put : PySem.W.nsIn K mainGlobals "_law_put" = some (some (.ref f__law_put))) (l__law_put : K.lookup f__law_put = some ⟨oc__law_put, od__law_put, .func (PySem.W.fnOf "_law_put" "_law_put" (defArgs s__law_put) (defBody s__law_put) (defScope s__law_put) .none kV__law_put dc__law_put pm__law_put an__law_put cd__law_put ct__law_put), sl__law_put⟩) (c__law_put : PySem.W.codeIn K cd__law_put "_law_put" = true) (k__law_put : PySem.W.keepIn K (.ref f__law_put) = true)
    {f__law_bent : Addr} {oc__law_bent : Value} {od__law_bent an__law_bent : Option Addr} {sl__law_bent : Array (Option Value)} {kV__law_bent dc__law_bent pm__law_bent cd__law_bent ct__law_bent : Value}
    (a__law_bent : PySem.W.nsIn K mainGlobals "_law_bent" = some (some (.ref f__law_bent))) (l__law_bent : K.lookup f__law_bent = some ⟨oc__law_bent, od__law_bent, .func (PySem.W.fnOf "_law_bent" "_law_bent" (defArgs s__law_bent) (defBody s__law_bent) (defScope s__law_bent) .none kV__law_bent dc__law_bent pm__law_bent an__law_bent cd__law_bent ct__law_bent), sl__law_bent⟩) (c__law_bent : PySem.W.codeIn K cd__law_bent "_law_bent" = true) (k__law_bent : PySem.W.keepIn K (.ref f__law_bent) = true)
    {f_law : Addr} {oc_law : Value} {od_law an_law : Option Addr} {sl_law : Array (Option Value)} {kV_law dc_law pm_law cd_law ct_law : Value}
    (a_law : PySem.W.nsIn K mainGlobals "law" = some (some (.ref f_law))) (l_law : K.lookup f_law = some ⟨oc_law, od_law, .func (PySem.W.fnOf "law" "law" (defArgs s_law) (defBody s_law) (defScope s_law) .none kV_law dc_law pm_law an_law cd_law ct_law), sl_law⟩) (c_law : PySem.W.codeIn K cd_law "law" = true) (k_law : PySem.W.keepIn K (.ref f_law) = true)
    (z_isinstance : PySem.W.nsIn K mainGlobals "isinstance" = some none)
    (z_int : PySem.W.nsIn K mainGlobals "int" = some none)
    (z_bool : PySem.W.nsIn K mainGlobals "bool" = some none)
    (z_tuple : PySem.W.nsIn K mainGlobals "tuple" = some none)
    (z_list : PySem.W.nsIn K mainGlobals "list" = some none)
    (z_len : PySem.W.nsIn K mainGlobals "len" = some none)
    (z_all : PySem.W.nsIn K mainGlobals "all" = some none)
    (z_range : PySem.W.nsIn K mainGlobals "range" = some none)
    (z_max : PySem.W.nsIn K mainGlobals "max" = some none)
    (z_min : PySem.W.nsIn K mainGlobals "min" = some none)
    (z_abs : PySem.W.nsIn K mainGlobals "abs" = some none)
    (z_str : PySem.W.nsIn K mainGlobals "str" = some none)
    {t_MOST_NODES : Tok} (g_MOST_NODES : PySem.W.nsIn K mainGlobals "MOST_NODES" = some (some (.int 120 t_MOST_NODES)))
    {t_MOST_MOVES : Tok} (g_MOST_MOVES : PySem.W.nsIn K mainGlobals "MOST_MOVES" = some (some (.int 12 t_MOST_MOVES)))
    {t_MOST_WEIGHT : Tok} (g_MOST_WEIGHT : PySem.W.nsIn K mainGlobals "MOST_WEIGHT" = some (some (.int 1000000 t_MOST_WEIGHT))) :
    ∃ fd : FuncData, (∀ (s : Shared) (v : Value), BindsTo s fd ⟨[v], []⟩ [("_law_script", v)]) ∧ ∀ base : Heap, K.In base → base.Ns mainGlobals mg → FnOk l.prog w K mg base CX0 7 fa fd ["_law_script"] (spLaw K) := by
  have e := hfa.symm.trans (PySem.W.mg_of X G a_law)
  cases e
  have D_is_whole := defAt_mk (st := s_is_whole) (ps := ["thing"]) X G a_is_whole l_is_whole c_is_whole k_is_whole (fun _ _ _ _ _ _ us hl => match us, hl with | [_], _ => rfl)
  have D_is_whole_in := defAt_mk (st := s_is_whole_in) (ps := ["thing", "low", "high"]) X G a_is_whole_in l_is_whole_in c_is_whole_in k_is_whole_in (fun _ _ _ _ _ _ us hl => match us, hl with | [_, _, _], _ => rfl)
  have D_is_pair := defAt_mk (st := s_is_pair) (ps := ["thing"]) X G a_is_pair l_is_pair c_is_pair k_is_pair (fun _ _ _ _ _ _ us hl => match us, hl with | [_], _ => rfl)
  have D_is_web := defAt_mk (st := s_is_web) (ps := ["thing"]) X G a_is_web l_is_web c_is_web k_is_web (fun _ _ _ _ _ _ us hl => match us, hl with | [_], _ => rfl)
  have D_is_node := defAt_mk (st := s_is_node) (ps := ["thing", "size"]) X G a_is_node l_is_node c_is_node k_is_node (fun _ _ _ _ _ _ us hl => match us, hl with | [_, _], _ => rfl)
  have D_is_move := defAt_mk (st := s_is_move) (ps := ["thing", "size"]) X G a_is_move l_is_move c_is_move k_is_move (fun _ _ _ _ _ _ us hl => match us, hl with | [_, _], _ => rfl)
  have D__law_hand := defAt_mk (st := s__law_hand) (ps := ["_law_script"]) X G a__law_hand l__law_hand c__law_hand k__law_hand (fun _ _ _ _ _ _ us hl => match us, hl with | [_], _ => rfl)
  have D__law_draw := defAt_mk (st := s__law_draw) (ps := ["_law_hand_here", "_law_size"]) X G a__law_draw l__law_draw c__law_draw k__law_draw (fun _ _ _ _ _ _ us hl => match us, hl with | [_, _], _ => rfl)
  have D__law_web := defAt_mk (st := s__law_web) (ps := ["_law_hand_here", "_law_most"]) X G a__law_web l__law_web c__law_web k__law_web (fun _ _ _ _ _ _ us hl => match us, hl with | [_, _], _ => rfl)
  have D__law_is_number := defAt_mk (st := s__law_is_number) (ps := ["_law_item", "_law_low", "_law_high"]) X G a__law_is_number l__law_is_number c__law_is_number k__law_is_number (fun _ _ _ _ _ _ us hl => match us, hl with | [_, _, _], _ => rfl)
  have D__law_is_web := defAt_mk (st := s__law_is_web) (ps := ["_law_item"]) X G a__law_is_web l__law_is_web c__law_is_web k__law_is_web (fun _ _ _ _ _ _ us hl => match us, hl with | [_], _ => rfl)
  have D__law_odd := defAt_mk (st := s__law_odd) (ps := ["_law_hand_here", "_law_many"]) X G a__law_odd l__law_odd c__law_odd k__law_odd (fun _ _ _ _ _ _ us hl => match us, hl with | [_, _], _ => rfl)
  have D__law_put := defAt_mk (st := s__law_put) (ps := ["_law_hand_here", "_law_row", "_law_more"]) X G a__law_put l__law_put c__law_put k__law_put (fun _ _ _ _ _ _ us hl => match us, hl with | [_, _, _], _ => rfl)
  have D__law_bent := defAt_mk (st := s__law_bent) (ps := ["_law_hand_here", "_law_web_here"]) X G a__law_bent l__law_bent c__law_bent k__law_bent (fun _ _ _ _ _ _ us hl => match us, hl with | [_, _], _ => rfl)
  let T : Top K mg := {
    f_is_whole := _, d_is_whole := _, D_is_whole := D_is_whole,
    f_is_whole_in := _, d_is_whole_in := _, D_is_whole_in := D_is_whole_in,
    f_is_pair := _, d_is_pair := _, D_is_pair := D_is_pair,
    f_is_web := _, d_is_web := _, D_is_web := D_is_web,
    f_is_node := _, d_is_node := _, D_is_node := D_is_node,
    f_is_move := _, d_is_move := _, D_is_move := D_is_move,
    f__law_hand := _, d__law_hand := _, D__law_hand := D__law_hand,
    f__law_draw := _, d__law_draw := _, D__law_draw := D__law_draw,
    f__law_web := _, d__law_web := _, D__law_web := D__law_web,
    f__law_is_number := _, d__law_is_number := _, D__law_is_number := D__law_is_number,
    f__law_is_web := _, d__law_is_web := _, D__law_is_web := D__law_is_web,
    f__law_odd := _, d__law_odd := _, D__law_odd := D__law_odd,
    f__law_put := _, d__law_put := _, D__law_put := D__law_put,
    f__law_bent := _, d__law_bent := _, D__law_bent := D__law_bent,
    b_isinstance := PySem.W.mg_none_of X G z_isinstance,
    b_int := PySem.W.mg_none_of X G z_int,
    b_bool := PySem.W.mg_none_of X G z_bool,
    b_tuple := PySem.W.mg_none_of X G z_tuple,
    b_list := PySem.W.mg_none_of X G z_list,
    b_len := PySem.W.mg_none_of X G z_len,
    b_all := PySem.W.mg_none_of X G z_all,
    b_range := PySem.W.mg_none_of X G z_range,
    b_max := PySem.W.mg_none_of X G z_max,
    b_min := PySem.W.mg_none_of X G z_min,
    b_abs := PySem.W.mg_none_of X G z_abs,
    b_str := PySem.W.mg_none_of X G z_str,
    t_MOST_NODES := _, c_MOST_NODES := PySem.W.mg_of X G g_MOST_NODES,
    t_MOST_MOVES := _, c_MOST_MOVES := PySem.W.mg_of X G g_MOST_MOVES,
    t_MOST_WEIGHT := _, c_MOST_WEIGHT := PySem.W.mg_of X G g_MOST_WEIGHT,
    KN_is_web := ⟨fun s us ws _ l1 l2 => match us, ws, l1, l2 with | [], [_], _, _ => .of_eq rfl, fun _ h => h⟩ }
  exact ⟨PySem.W.fnOf "law" "law" (defArgs s_law) (defBody s_law) (defScope s_law) .none kV_law dc_law pm_law an_law cd_law ct_law, fun s v => .of_eq rfl, fun base _ _ => ok_law T (fun_mk (st := s_law) l_law c_law k_law)⟩
end K01
open PySem PySem.W PyProof.Rows
set_option maxRecDepth 100000 in
set_option maxHeartbeats 0 in
theorem PySem.Challenge.cw_parlourday_k01_what_is_a_web_holds : PySem.Challenge.rw_parlourday_k01_what_is_a_web.Holds := by
  w_on; o_law; k_head; (case hw => w_witness2)
  k_fill
  refine L2.walk_of (l := PySem.Challenge.rw_parlourday_k01_what_is_a_web) (n := 63) (k := 7) (x := "_law_script") (CX := fun _ => L2.CX0) (sp := fun w => K01.spLaw _) rfl (by decide) rfl ⟨rfl, by decide, by decide⟩ (fun w h Y => PySem.W.kIn_of Y) ?F (fun _ _ a ns hl _ hS => ⟨a, ns, rfl, hS, hl, fun _ => rfl⟩) (fun _ _ _ _ _ h => h)
  case F =>
    intro w mg fa h KX G hmg
    refine' K01.all_mk KX G hmg ?a_is_whole ?l_is_whole ?c_is_whole ?k_is_whole ?a_is_whole_in ?l_is_whole_in ?c_is_whole_in ?k_is_whole_in ?a_is_pair ?l_is_pair ?c_is_pair ?k_is_pair ?a_is_web ?l_is_web ?c_is_web ?k_is_web ?a_is_node ?l_is_node ?c_is_node ?k_is_node ?a_is_move ?l_is_move ?c_is_move ?k_is_move ?a__law_hand ?l__law_hand ?c__law_hand ?k__law_hand ?a__law_draw ?l__law_draw ?c__law_draw ?k__law_draw ?a__law_web ?l__law_web ?c__law_web ?k__law_web ?a__law_is_number ?l__law_is_number ?c__law_is_number ?k__law_is_number ?a__law_is_web ?l__law_is_web ?c__law_is_web ?k__law_is_web ?a__law_odd ?l__law_odd ?c__law_odd ?k__law_odd ?a__law_put ?l__law_put ?c__law_put ?k__law_put ?a__law_bent ?l__law_bent ?c__law_bent ?k__law_bent ?a_law ?l_law ?c_law ?k_law ?z_isinstance ?z_int ?z_bool ?z_tuple ?z_list ?z_len ?z_all ?z_range ?z_max ?z_min ?z_abs ?z_str ?g_MOST_NODES ?g_MOST_MOVES ?g_MOST_WEIGHT
    (case a_is_whole => k_is); (case l_is_whole => k_is); (case c_is_whole => k_is); (case k_is_whole => k_is); (case a_is_whole_in => k_is); (case l_is_whole_in => k_is); (case c_is_whole_in => k_is); (case k_is_whole_in => k_is); (case a_is_pair => k_is); (case l_is_pair => k_is); (case c_is_pair => k_is); (case k_is_pair => k_is); (case a_is_web => k_is); (case l_is_web => k_is); (case c_is_web => k_is); (case k_is_web => k_is); (case a_is_node => k_is); (case l_is_node => k_is); (case c_is_node => k_is); (case k_is_node => k_is); (case a_is_move => k_is); (case l_is_move => k_is); (case c_is_move => k_is); (case k_is_move => k_is); (case a__law_hand => k_is); (case l__law_hand => k_is); (case c__law_hand => k_is); (case k__law_hand => k_is); (case a__law_draw => k_is); (case l__law_draw => k_is); (case c__law_draw => k_is); (case k__law_draw => k_is); (case a__law_web => k_is); (case l__law_web => k_is); (case c__law_web => k_is); (case k__law_web => k_is); (case a__law_is_number => k_is); (case l__law_is_number => k_is); (case c__law_is_number => k_is); (case k__law_is_number => k_is); (case a__law_is_web => k_is); (case l__law_is_web => k_is); (case c__law_is_web => k_is); (case k__law_is_web => k_is); (case a__law_odd => k_is); (case l__law_odd => k_is); (case c__law_odd => k_is); (case k__law_odd => k_is); (case a__law_put => k_is); (case l__law_put => k_is); (case c__law_put => k_is); (case k__law_put => k_is); (case a__law_bent => k_is); (case l__law_bent => k_is); (case c__law_bent => k_is); (case k__law_bent => k_is); (case a_law => k_is); (case l_law => k_is); (case c_law => k_is); (case k_law => k_is); (case z_isinstance => k_is); (case z_int => k_is); (case z_bool => k_is); (case z_tuple => k_is); (case z_list => k_is); (case z_len => k_is); (case z_all => k_is); (case z_range => k_is); (case z_max => k_is); (case z_min => k_is); (case z_abs => k_is); (case z_str => k_is); (case g_MOST_NODES => k_is); (case g_MOST_MOVES => k_is); (case g_MOST_WEIGHT => k_is)

