import PyProof.Rows.All
import Wide.All
import OpenK.AllK
import Wide.FinOn
import KE.KStateDown
import HandS.Head0
import HandS.Head1
import HandS.Head2
import HandS.HeadEnd
import HandS.HeadHook1
import HandS.HeadHook2
import HandS.HeadHook3
import HandS.HeadHook4
import HandS.ForMost
import HandS.Flow
import HandS.FStr
import HandS.TupAny
import HandS.TupMul
import KE.KeyNested
import HandS.Dict
import HandS.SetKeys
import HandS.Strs
import PyProof.StrBlock2
import HandS.Deep
import HandS.Star
import HandS.More
import HandS.DictComp
import HandS.IsInst
import HandS.Style
import HandS.Defaults
import HandS.GenBody
import HandS.GenYield
import HandS.GenCall
import HandS.GenList
import HandS.SetBool
import HandS.Small
import HandS.Conv
import HandS.Comp
import HandS.Rev
import KE.SortData
import HandS.Walk
import PySem.Challenge.RW_deckwork_k03_canonical_decks
set_option Elab.async false
set_option linter.all false
set_option maxRecDepth 100000
set_option maxHeartbeats 0
namespace Dw
open PySem PySem.W PyProof.Rows HandSHeadRun
def addAll {α : Type} : List Addr → Nat → List Addr → (Nat → List Addr → α) → α
  | [], m, acc, k => k m acc
  | a :: r, m, acc, k => frNat a fun a => match Nat.land (Nat.shiftRight m a) 1 with
    | 0 => frNat (m + 2 ^ a) fun m => addAll r m (a :: acc) k
    | _ + 1 => addAll r m acc k
theorem addAll_eq {α : Type} : ∀ (l : List Addr) (m : Nat) (acc : List Addr) (k : Nat → List Addr → α), addAll l m acc k = k (addAll l m acc Prod.mk).1 (addAll l m acc Prod.mk).2
  | [], _, _, _ => rfl
  | a :: r, m, acc, k => by
    unfold addAll
    simp only [frNat_eq]
    split
    · exact addAll_eq r _ _ k
    · exact addAll_eq r _ _ k
def bfs {α : Type} (g : Addr → Option Obj) : Nat → Nat → List Addr → List Addr → (List Addr → α) → α
  | 0, _, _, acc, k => k acc
  | n + 1, m, front, acc, k => addAll (front.flatMap fun a => match g a with
    | some o => He.refsD o
    | none => []) m [] fun m new => bfs g n m new (new ++ acc) k
theorem bfs_eq {α : Type} (g : Addr → Option Obj) : ∀ (n m : Nat) (front acc : List Addr) (k : List Addr → α), bfs g n m front acc k = k (bfs g n m front acc id)
  | 0, _, _, _, _ => rfl
  | n + 1, m, front, acc, k => by
    unfold bfs
    rw [addAll_eq, addAll_eq (k := fun m new => bfs g n m new (new ++ acc) id)]
    exact bfs_eq g n _ _ _ k
def asB (g : Addr → Option Obj) : List Addr := bfs g 5 (2 ^ mainGlobals) [mainGlobals] [mainGlobals] id
def obsK (fa : List He.Fa) (fn : List He.DefD) (ex : PySem.W.Frag → Bool) (K : PySem.W.Frag) : He.AlX := (He.obsT fa fn [] K, ex K)
def obsB (fa : List He.Fa) (fn : List He.DefD) (ex : PySem.W.Frag → Bool) (g : Addr → Option Obj) : He.AlX := bfs g 5 (2 ^ mainGlobals) [mainGlobals] [mainGlobals] fun as => obsK fa fn ex (He.frT g as)
theorem obsB_eq (fa : List He.Fa) (fn : List He.DefD) (ex : PySem.W.Frag → Bool) (g : Addr → Option Obj) : obsB fa fn ex g = obsK fa fn ex (He.frT g (asB g)) := bfs_eq g 5 _ _ _ _
theorem saysX_ofK {fa : List He.Fa} {fn : List He.DefD} {ex : PySem.W.Frag → Bool} {w : World} {h : Heap} {K : PySem.W.Frag} (e : obsK fa fn ex K = He.valX fn [] w) : He.SaysX fa fn [] [] ex w h K :=
  ⟨congrArg (fun z : He.AlX => z.1) e, congrArg (fun z : He.AlX => z.2) e, fun _ hp => (nomatch hp), fun _ hp => (nomatch hp), fun _ hp => (nomatch hp)⟩
def hookB (fa : List He.Fa) (fn : List He.DefD) (ex : PySem.W.Frag → Bool) : PySem.W.Hook where
  α := He.AlX
  obs := fun s => obsB fa fn ex s.heap.get?
  val := fun w => He.valX fn [] w
  says := fun w h => ∃ K : PySem.W.Frag, K.In h ∧ He.SaysX fa fn [] [] ex w h K
  of := fun w s e => ⟨He.frT s.heap.get? (asB s.heap.get?), He.frT_in, saysX_ofK (by rw [← obsB_eq]; exact e)⟩
  keeps := fun _ _ _ ⟨K, hK, c⟩ k => ⟨K, PySem.W.Frag.In.keeps hK k, ⟨c.t, c.more, c.hd, c.out, fun p hp => k _ _ (c.empty p hp)⟩⟩
theorem obsB_obs {fa : List He.Fa} {fn : List He.DefD} {ex : PySem.W.Frag → Bool} {g : Addr → Option Obj} {s : Shared} (h : ∀ a, g a = s.heap.get? a) : obsB fa fn ex g = (hookB fa fn ex).obs s := by
  have e : g = s.heap.get? := funext h
  rw [e] <;> rfl
/-- what a part of the looks says -/
def PartEq (r : OpenRow) (fa : List He.Fa) (fn : List He.DefD) (ex : PySem.W.Frag → Bool) (M : Nat) (w : World) : Prop :=
  ∀ os : OsState, (endF (stepQ (denQ tabQ) r.prog w) M r.prog w os).map (fun s => obsB fa fn ex (getT s)) = some (He.valX fn [] w)
def LooksEq (r : OpenRow) (M : Nat) (w : World) : Prop :=
  ∀ os : OsState, (endF (stepQ (denQ tabQ) r.prog w) M r.prog w os).map (fun s => looksF r.prog (boot_heap w.params) s.abs) = some true
def SeenEq (r : OpenRow) (q : Program) (M : Nat) (loose : List PySem.Str) (w : World) : Prop :=
  ∀ os : OsState, (endF (stepQ (denQ tabQ) r.prog w) M r.prog w os).map (fun s => seenQ q loose (importedModules r.prog.main.body) (fun s => xlAt q [] s && recOk r.toRowW.records s) s.abs) = some (openGood q loose)
theorem obsK_app {fa fb : List He.Fa} {fn gn : List He.DefD} {ex ey : PySem.W.Frag → Bool} {K : PySem.W.Frag} {w : World}
    (h1 : obsK fa fn ex K = He.valX fn [] w) (h2 : obsK fb gn ey K = He.valX gn [] w) : obsK (fa ++ fb) (fn ++ gn) ey K = He.valX (fn ++ gn) [] w := by
  unfold obsK He.valX He.obsT He.valT He.obsD He.valD at h1 h2 ⊢
  have a1 : ((fa.all fun f => f.ok K) && fn.all fun d => d.ok K) = true := congrArg (fun z : He.AlX => z.1.1.1) h1
  have a2 : (fn.map fun d => He.fnW K d.at_) = fn.map He.DefD.val := congrArg (fun z : He.AlX => z.1.1.2) h1
  have b1 : ((fb.all fun f => f.ok K) && gn.all fun d => d.ok K) = true := congrArg (fun z : He.AlX => z.1.1.1) h2
  have b2 : (gn.map fun d => He.fnW K d.at_) = gn.map He.DefD.val := congrArg (fun z : He.AlX => z.1.1.2) h2
  have b3 : ey K = true := congrArg (fun z : He.AlX => z.2) h2
  obtain ⟨a3, a4⟩ := Bool.and_eq_true_iff.mp a1
  obtain ⟨b4, b5⟩ := Bool.and_eq_true_iff.mp b1
  rw [List.all_append, List.all_append, List.map_append, List.map_append, a2, b2, a3, a4, b4, b5, b3]
  rfl
theorem PartEq.app {r : OpenRow} {fa fb : List He.Fa} {fn gn : List He.DefD} {ex ey : PySem.W.Frag → Bool} {M : Nat} {w : World} (h1 : PartEq r fa fn ex M w) (h2 : PartEq r fb gn ey M w) : PartEq r (fa ++ fb) (fn ++ gn) ey M w := fun os => by
  have e1 := h1 os
  have e2 := h2 os
  generalize endF (stepQ (denQ tabQ) r.prog w) M r.prog w os = o at *
  cases o with
  | none => cases e1
  | some s =>
    have e1 : obsB fa fn ex (getT s) = He.valX fn [] w := Option.some.inj e1
    have e2 : obsB fb gn ey (getT s) = He.valX gn [] w := Option.some.inj e2
    show some (obsB (fa ++ fb) (fn ++ gn) ey (getT s)) = _
    rw [obsB_eq] at e1 e2 ⊢
    exact congrArg some (obsK_app e1 e2)
theorem run_of {r : OpenRow} {q : Program} {fa : List He.Fa} {fn : List He.DefD} {ex : PySem.W.Frag → Bool} {M : Nat} {loose : List PySem.Str} {w : World} (h1 : LooksEq r M w) (h2 : SeenEq r q M loose w) (h3 : PartEq r fa fn ex M w) :
    RunEq r q (hookB fa fn ex) (fun s => obsB fa fn ex (getT s)) M loose w := fun os => by
  have e1 := h1 os
  have e2 := h2 os
  have e3 := h3 os
  generalize endF (stepQ (denQ tabQ) r.prog w) M r.prog w os = o at *
  cases o with
  | none => cases e1
  | some s => exact congrArg some (Prod.ext (Option.some.inj e1) (Prod.ext (Option.some.inj e2) (Option.some.inj e3)))
end Dw
namespace Dw
open PySem L2
/-- a tuple of texts behind the top -/
def tupF (x : Str) (zs : List Str) (K : PySem.W.Frag) : Bool := He.eqO (PySem.W.nsIn K mainGlobals x) (some (some (.ref (He.ga K x)))) && (He.tupB K x (zs.map He.Dv.str) && match K.lookup (He.ga K x) with
  | some ⟨_, none, _, _⟩ => true
  | _ => false)
end Dw
namespace Dk
open PySem L2 Dw TL
def top (i : Nat) : Stmt := PySem.Challenge.pw_deckwork_k03_canonical_decks.main.body.getD i (.Pass ⟨0, 0, 0, 0⟩)
end Dk
namespace Dk
open PySem L2 Dw TL
def hfn0 : List He.DefD := [⟨("_law_below", none), "_law_below", "_law_below", defArgs (top 50), defBody (top 50), defScope (top 50), [], []⟩,
  ⟨("_law_random", none), "_law_random", "_law_random", defArgs (top 49), defBody (top 49), defScope (top 49), [], []⟩,
  ⟨("_law_shuffled", none), "_law_shuffled", "_law_shuffled", defArgs (top 51), defBody (top 51), defScope (top 51), [], []⟩,
  ⟨("_law_action", none), "_law_action", "_law_action", defArgs (top 52), defBody (top 52), defScope (top 52), [], []⟩,
  ⟨("_law_put", none), "_law_put", "_law_put", defArgs (top 53), defBody (top 53), defScope (top 53), [], []⟩,
  ⟨("_law_deck", none), "_law_deck", "_law_deck", defArgs (top 54), defBody (top 54), defScope (top 54), [], []⟩,
  ⟨("_law_card_text", none), "_law_card_text", "_law_card_text", defArgs (top 55), defBody (top 55), defScope (top 55), [], []⟩,
  ⟨("_law_text", none), "_law_text", "_law_text", defArgs (top 56), defBody (top 56), defScope (top 56), [], []⟩,
  ⟨("skip", none), "skip", "skip", defArgs (top 27), defBody (top 27), defScope (top 27), [], []⟩,
  ⟨("find_end", none), "find_end", "find_end", defArgs (top 26), defBody (top 26), defScope (top 26), [], []⟩,
  ⟨("is_word", none), "is_word", "is_word", defArgs (top 29), defBody (top 29), defScope (top 29), [], []⟩,
  ⟨("is_number", none), "is_number", "is_number", defArgs (top 30), defBody (top 30), defScope (top 30), [], []⟩,
  ⟨("find_kind", none), "find_kind", "find_kind", defArgs (top 28), defBody (top 28), defScope (top 28), [], []⟩,
  ⟨("Token", some "__init__"), "__init__", "Token.__init__", defArgs (inClass (top 23) 0), defBody (inClass (top 23) 0), defScope (inClass (top 23) 0), [], []⟩,
  ⟨("read_row", none), "read_row", "read_row", defArgs (top 25), defBody (top 25), defScope (top 25), [], []⟩,
  ⟨("read_tokens", none), "read_tokens", "read_tokens", defArgs (top 24), defBody (top 24), defScope (top 24), [], []⟩,
  ⟨("Parser", some "__init__"), "__init__", "Parser.__init__", defArgs (inClass (top 38) 0), defBody (inClass (top 38) 0), defScope (inClass (top 38) 0), [], []⟩,
  ⟨("Parser", some "sees"), "sees", "Parser.sees", defArgs (inClass (top 38) 1), defBody (inClass (top 38) 1), defScope (inClass (top 38) 1), [], []⟩,
  ⟨("Parser", some "take"), "take", "Parser.take", defArgs (inClass (top 38) 2), defBody (inClass (top 38) 2), defScope (inClass (top 38) 2), [], []⟩,
  ⟨("Parser", some "read_number"), "read_number", "Parser.read_number", defArgs (inClass (top 38) 12), defBody (inClass (top 38) 12), defScope (inClass (top 38) 12), [], []⟩,
  ⟨("Parser", some "read_letter"), "read_letter", "Parser.read_letter", defArgs (inClass (top 38) 9), defBody (inClass (top 38) 9), defScope (inClass (top 38) 9), [], []⟩,
  ⟨("Parser", some "read_value"), "read_value", "Parser.read_value", defArgs (inClass (top 38) 10), defBody (inClass (top 38) 10), defScope (inClass (top 38) 10), [], []⟩,
  ⟨("Parser", some "read_depth"), "read_depth", "Parser.read_depth", defArgs (inClass (top 38) 11), defBody (inClass (top 38) 11), defScope (inClass (top 38) 11), [], []⟩,
  ⟨("Parser", some "read_action"), "read_action", "Parser.read_action", defArgs (inClass (top 38) 7), defBody (inClass (top 38) 7), defScope (inClass (top 38) 7), [], []⟩,
  ⟨("Parser", some "read_put"), "read_put", "Parser.read_put", defArgs (inClass (top 38) 8), defBody (inClass (top 38) 8), defScope (inClass (top 38) 8), [], []⟩,
  ⟨("Parser", some "read_actions"), "read_actions", "Parser.read_actions", defArgs (inClass (top 38) 6), defBody (inClass (top 38) 6), defScope (inClass (top 38) 6), [], []⟩,
  ⟨("Card", some "__init__"), "__init__", "Card.__init__", defArgs (inClass (top 10) 0), defBody (inClass (top 10) 0), defScope (inClass (top 10) 0), [], []⟩,
  ⟨("Parser", some "read_card"), "read_card", "Parser.read_card", defArgs (inClass (top 38) 5), defBody (inClass (top 38) 5), defScope (inClass (top 38) 5), [], []⟩,
  ⟨("Deck", some "__init__"), "__init__", "Deck.__init__", defArgs (inClass (top 11) 0), defBody (inClass (top 11) 0), defScope (inClass (top 11) 0), [], []⟩,
  ⟨("Parser", some "read_deck"), "read_deck", "Parser.read_deck", defArgs (inClass (top 38) 4), defBody (inClass (top 38) 4), defScope (inClass (top 38) 4), [], []⟩,
  ⟨("parse_deck", none), "parse_deck", "parse_deck", defArgs (top 37), defBody (top 37), defScope (top 37), [], []⟩,
  ⟨("_law_equal", none), "_law_equal", "_law_equal", defArgs (top 57), defBody (top 57), defScope (top 57), [], []⟩,
  ⟨("measure", none), "measure", "measure", defArgs (top 47), defBody (top 47), defScope (top 47), [], []⟩,
  ⟨("card_names", none), "card_names", "card_names", defArgs (top 41), defBody (top 41), defScope (top 41), [], []⟩,
  ⟨("write_put", none), "write_put", "write_put", defArgs (top 45), defBody (top 45), defScope (top 45), [], []⟩,
  ⟨("write_action", none), "write_action", "write_action", defArgs (top 44), defBody (top 44), defScope (top 44), [], []⟩,
  ⟨("write_card", none), "write_card", "write_card", defArgs (top 43), defBody (top 43), defScope (top 43), [], []⟩,
  ⟨("write_deck", none), "write_deck", "write_deck", defArgs (top 42), defBody (top 42), defScope (top 42), [], []⟩,
  ⟨("format_deck", none), "format_deck", "format_deck", defArgs (top 40), defBody (top 40), defScope (top 40), [], []⟩,
  ⟨("law", none), "law", "law", defArgs (top 58), defBody (top 58), defScope (top 58), [], []⟩]
def hfn : List He.DefD := hfn0
def hfa0 : List He.Fa := [.glo "_law_below",
  .glo "_law_random",
  .glo "_law_shuffled",
  .glo "_law_action",
  .glo "_law_put",
  .glo "_law_deck",
  .glo "_law_card_text",
  .glo "_law_text",
  .glo "skip",
  .glo "find_end",
  .glo "is_word",
  .glo "is_number",
  .glo "find_kind",
  .noat "Token" "column",
  .noat "Token" "line",
  .noat "Token" "text",
  .noat "Token" "kind",
  .cls "Token",
  .glo "Token",
  .mkr "Token",
  .glo "read_row",
  .glo "read_tokens",
  .noat "Parser" "wrap",
  .noat "Parser" "fault",
  .noat "Parser" "at",
  .noat "Parser" "tokens",
  .cls "Parser",
  .glo "Parser",
  .mkr "Parser",
  .meth "Parser" "sees",
  .meth "Parser" "take",
  .meth "Parser" "read_number",
  .meth "Parser" "read_letter",
  .meth "Parser" "read_value",
  .meth "Parser" "read_depth",
  .meth "Parser" "read_action",
  .meth "Parser" "read_put",
  .meth "Parser" "read_actions",
  .noat "Card" "put",
  .noat "Card" "actions",
  .noat "Card" "name",
  .cls "Card",
  .glo "Card",
  .mkr "Card",
  .meth "Parser" "read_card",
  .noat "Deck" "by_name",
  .noat "Deck" "names",
  .noat "Deck" "cards",
  .noat "Deck" "wrap",
  .cls "Deck",
  .glo "Deck",
  .mkr "Deck",
  .meth "Parser" "read_deck",
  .glo "parse_deck",
  .glo "_law_equal",
  .glo "measure",
  .glo "card_names",
  .glo "write_put",
  .glo "write_action",
  .glo "write_card",
  .glo "write_deck",
  .glo "format_deck",
  .glo "law",
  .str "DIGITS" "0123456789",
  .str "LETTERS" "abcdefghijklmnopqrstuvwxyz",
  .int "LONGEST_WORD" 8,
  .int "LONGEST_NUMBER" 3,
  .int "MOST_DEPTH" 9,
  .int "ADD" 0,
  .int "COPY" 1,
  .int "EMIT_LETTER" 3,
  .int "EMIT_NUMBER" 4,
  .int "SWAP" 2,
  .int "PUT_CHOICE" 2,
  .int "PUT_LETTER" 1,
  .int "PUT_NUMBER" 0,
  .int "MOST_ACTIONS" 6,
  .int "MOST_CARDS" 8,
  .int "LEAST_WRAP" 2,
  .int "MOST_WRAP" 16,
  .free "len",
  .free "abs",
  .free "list",
  .free "min",
  .free "range",
  .free "int",
  .free "str",
  .free "enumerate",
  .free "tuple",
  .free "isinstance",
  .free "all",
  .free "bool",
  .free "sum",
  .free "max"]
def hfa : List He.Fa := hfa0
def hlo0 : List PySem.Str := ["REGISTERS", "ADD", "COPY", "SWAP", "EMIT_LETTER", "EMIT_NUMBER", "PUT_NUMBER", "PUT_LETTER", "PUT_CHOICE", "Card", "Deck", "DeckError", "SyntaxFault", "CheckFault", "LETTERS", "DIGITS", "KEYWORDS", "SIGNS", "LONGEST_WORD", "LONGEST_NUMBER", "Token", "read_tokens", "read_row", "find_end", "skip", "find_kind", "is_word", "is_number", "LEAST_WRAP", "MOST_WRAP"]
def hlo1 : List PySem.Str := ["MOST_CARDS", "MOST_ACTIONS", "MOST_DEPTH", "parse_deck", "Parser", "format_deck", "card_names", "write_deck", "write_card", "write_action", "write_put", "measure", "_law_random", "_law_below", "_law_shuffled", "_law_action", "_law_put", "_law_deck", "_law_card_text", "_law_text", "_law_equal"]
def hlo : List PySem.Str := hlo0 ++ (hlo1)
def hex (K : PySem.W.Frag) : Bool := tupF "KEYWORDS" ["wrap", "add", "copy", "swap", "emit"] K && (tupF "REGISTERS" ["p", "q", "r", "s"] K && (tupF "SIGNS" ["->", ":", ",", ";", "?"] K))
abbrev hrow : PySem.W.OpenRow := PySem.W.OpenLaw.row PySem.Challenge.rw_deckwork_k03_canonical_decks
abbrev hk : PySem.W.Hook := hookB hfa hfn hex
def hob (s : PySem.W.SharedT) : He.AlX := obsB hfa hfn hex (HandSHeadRun.getT s)
theorem hob_eq (s : PySem.W.SharedT) : hob s = hk.obs s.abs := obsB_obs (HandSHeadRun.getT_eq s)
theorem hr_l (w : World) : LooksEq hrow 60000 w := by
  intro os
  kernel_rfl
theorem hr_s (w : World) : SeenEq hrow (PySem.W.view hrow.prog [58]) 60000 hlo w := by
  intro os
  kernel_rfl
theorem hr_0 (w : World) : PartEq hrow hfa0 hfn0 hex 60000 w := by
  intro os
  kernel_rfl
theorem hrun (w : World) : HandSHeadRun.RunEq hrow (PySem.W.view hrow.prog [58]) hk hob 60000 hlo w := run_of (hr_l w) (hr_s w) (hr_0 w)
end Dk

namespace Dw
open PySem L2

/-- a value with all that hangs on it -/
inductive Dv where
  | non | bl (b : Bool) | int (i : Int) | str (x : Str)
  | lst (xs : List Dv) | tup (xs : List Dv)
  | ins (C : Addr) (fs : List (Str × Dv))
  | dic (kvs : List (Key × Dv))
  | sql (xs : List Dv)
  | adr (a : Addr)
  | stp (xs : List Dv)

/-- a tuple's object as it is made: nothing hangs on it -/
def NdO (o : PySem.Obj) : Prop := o.cls = .type "tuple" ∧ o.dict = none
def NoD (K : PySem.W.Frag) (H : Hp) (a : Addr) : Prop := (∃ o u, H a = some (.frz o u) ∧ NdO o) ∨ ∃ o, K.lookup a = some o ∧ NdO o
/-- a tuple that has no dict -/
def SqN (K : PySem.W.Frag) (H : Hp) (a : Addr) (xs : List V) : Prop := SqT K H a xs ∧ NoD K H a

mutual
/-- v lies in H as d -/
inductive Rp (K : PySem.W.Frag) (H : Hp) : V → Dv → Prop
  | non : Rp K H .non .non
  | bl (b : Bool) : Rp K H (.bl b) (.bl b)
  | int (i : Int) : Rp K H (.int i) (.int i)
  | str (x : Str) : Rp K H (.str x) (.str x)
  | lst {a : Addr} {xs : List V} {ds : List Dv} : H a = some (.lst xs) → RpL K H xs ds → Rp K H (.ref a) (.lst ds)
  | tup {a : Addr} {xs : List V} {ds : List Dv} : SqN K H a xs → RpL K H xs ds → Rp K H (.ref a) (.tup ds)
  | ins {a C dx : Addr} {fs : List (Str × V)} {gs : List (Str × Dv)} : H a = some (.ins C dx fs) → RpF K H fs gs → Rp K H (.ref a) (.ins C gs)
  | dic {a : Addr} {fs : List (Key × V)} {gs : List (Key × Dv)} : H a = some (.dK fs) → RpK K H fs gs → Rp K H (.ref a) (.dic gs)
  | sql {a : Addr} {xs : List V} {ds : List Dv} : SqL K H a xs → RpL K H xs ds → Rp K H (.ref a) (.sql ds)
  | adr (a : Addr) : Rp K H (.ref a) (.adr a)
  | stp {a : Addr} {xs : List V} {ds : List Dv} : SqT K H a xs → RpL K H xs ds → Rp K H (.ref a) (.stp ds)
inductive RpL (K : PySem.W.Frag) (H : Hp) : List V → List Dv → Prop
  | nil : RpL K H [] []
  | cons {v : V} {vs : List V} {d : Dv} {ds : List Dv} : Rp K H v d → RpL K H vs ds → RpL K H (v :: vs) (d :: ds)
inductive RpF (K : PySem.W.Frag) (H : Hp) : List (Str × V) → List (Str × Dv) → Prop
  | nil : RpF K H [] []
  | cons {f : Str} {v : V} {vs : List (Str × V)} {d : Dv} {ds : List (Str × Dv)} : Rp K H v d → RpF K H vs ds → RpF K H ((f, v) :: vs) ((f, d) :: ds)
inductive RpK (K : PySem.W.Frag) (H : Hp) : List (Key × V) → List (Key × Dv) → Prop
  | nil : RpK K H [] []
  | cons {f : Key} {v : V} {vs : List (Key × V)} {d : Dv} {ds : List (Key × Dv)} : Rp K H v d → RpK K H vs ds → RpK K H ((f, v) :: vs) ((f, d) :: ds)
end

theorem sqT_mono {K : PySem.W.Frag} {H H' : Hp} {a : Addr} {xs : List V} (e : Same H H') (h : SqT K H a xs) : SqT K H' a xs := by
  rcases h with (h | ⟨o, h⟩) | h
  · exact .inl (.inl (e _ _ h))
  · exact .inl (.inr ⟨o, e _ _ h⟩)
  · exact .inr h

theorem sqN_mono {K : PySem.W.Frag} {H H' : Hp} {a : Addr} {xs : List V} (e : Same H H') (h : SqN K H a xs) : SqN K H' a xs :=
  ⟨sqT_mono e h.1, h.2.elim (fun ⟨o, u, q, z⟩ => .inl ⟨o, u, e _ _ q, z⟩) .inr⟩
section
variable {K : PySem.W.Frag} {H H' : Hp}
mutual
theorem Rp.mono (e : Same H H') : ∀ {v : V} {d : Dv}, Rp K H v d → Rp K H' v d
  | _, _, .non => .non
  | _, _, .bl b => .bl b
  | _, _, .int i => .int i
  | _, _, .str x => .str x
  | _, _, .lst h r => .lst (e _ _ h) (RpL.mono e r)
  | _, _, .tup h r => .tup (sqN_mono e h) (RpL.mono e r)
  | _, _, .ins h r => .ins (e _ _ h) (RpF.mono e r)
  | _, _, .dic h r => .dic (e _ _ h) (RpK.mono e r)
  | _, _, .sql h r => .sql (e.seq h) (RpL.mono e r)
  | _, _, .adr a => .adr a
  | _, _, .stp h r => .stp (sqT_mono e h) (RpL.mono e r)
theorem RpL.mono (e : Same H H') : ∀ {v : List V} {d : List Dv}, RpL K H v d → RpL K H' v d
  | _, _, .nil => .nil
  | _, _, .cons h r => .cons (Rp.mono e h) (RpL.mono e r)
theorem RpF.mono (e : Same H H') : ∀ {v : List (Str × V)} {d : List (Str × Dv)}, RpF K H v d → RpF K H' v d
  | _, _, .nil => .nil
  | _, _, .cons h r => .cons (Rp.mono e h) (RpF.mono e r)
theorem RpK.mono (e : Same H H') : ∀ {v : List (Key × V)} {d : List (Key × Dv)}, RpK K H v d → RpK K H' v d
  | _, _, .nil => .nil
  | _, _, .cons h r => .cons (Rp.mono e h) (RpK.mono e r)
end
end
section
variable {K : PySem.W.Frag} {H : Hp}
theorem RpL.len : ∀ {v : List V} {d : List Dv}, RpL K H v d → v.length = d.length
  | _, _, .nil => rfl
  | _, _, .cons _ r => congrArg Nat.succ r.len
theorem RpL.get : ∀ {v : List V} {d : List Dv} {i : Nat} {x : Dv}, RpL K H v d → d[i]? = some x → ∃ u, v[i]? = some u ∧ Rp K H u x
  | _, _, _, _, .nil, e => by simp at e
  | _, _, 0, _, .cons r _, e => by
    rw [List.getElem?_cons_zero] at e
    cases e
    exact ⟨_, rfl, r⟩
  | _, _, i + 1, x, .cons _ t, e => by
    rw [List.getElem?_cons_succ] at e
    obtain ⟨u, h1, h2⟩ := RpL.get t e
    exact ⟨u, by rw [List.getElem?_cons_succ]; exact h1, h2⟩
theorem RpL.getV : ∀ {v : List V} {d : List Dv} {i : Nat} {u : V}, RpL K H v d → v[i]? = some u → ∃ x, d[i]? = some x ∧ Rp K H u x
  | _, _, _, _, .nil, e => by simp at e
  | _, _, 0, _, .cons r _, e => by
    rw [List.getElem?_cons_zero] at e
    cases e
    exact ⟨_, rfl, r⟩
  | _, _, i + 1, x, .cons _ t, e => by
    rw [List.getElem?_cons_succ] at e
    obtain ⟨u, h1, h2⟩ := RpL.getV t e
    exact ⟨u, by rw [List.getElem?_cons_succ]; exact h1, h2⟩
theorem RpL.app : ∀ {v w : List V} {d e : List Dv}, RpL K H v d → RpL K H w e → RpL K H (v ++ w) (d ++ e)
  | _, _, _, _, .nil, s => s
  | _, _, _, _, .cons r t, s => .cons r (t.app s)
theorem RpL.take : ∀ {v : List V} {d : List Dv} (n : Nat), RpL K H v d → RpL K H (v.take n) (d.take n)
  | _, _, 0, _ => .nil
  | _, _, _ + 1, .nil => .nil
  | _, _, n + 1, .cons r t => .cons r (t.take n)
theorem RpL.drop : ∀ {v : List V} {d : List Dv} (n : Nat), RpL K H v d → RpL K H (v.drop n) (d.drop n)
  | _, _, 0, r => r
  | _, _, _ + 1, .nil => .nil
  | _, _, n + 1, .cons _ t => t.drop n
theorem RpL.set {x : V} {y : Dv} (r : Rp K H x y) : ∀ {v : List V} {d : List Dv} (n : Nat), RpL K H v d → RpL K H (v.set n x) (d.set n y)
  | _, _, _, .nil => .nil
  | _, _, 0, .cons _ t => .cons r t
  | _, _, n + 1, .cons q t => .cons q (RpL.set r n t)
theorem RpL.erase : ∀ {v : List V} {d : List Dv} (n : Nat), RpL K H v d → RpL K H (v.eraseIdx n) (d.eraseIdx n)
  | _, _, _, .nil => .nil
  | _, _, 0, .cons _ t => t
  | _, _, n + 1, .cons q t => .cons q (RpL.erase n t)
theorem RpL.ints : ∀ (ns : List Int), RpL K H (ns.map V.int) (ns.map Dv.int)
  | [] => .nil
  | n :: ns => .cons (.int n) (RpL.ints ns)
theorem RpL.strs : ∀ (ns : List Str), RpL K H (ns.map V.str) (ns.map Dv.str)
  | [] => .nil
  | n :: ns => .cons (.str n) (RpL.strs ns)
theorem RpL.bls : ∀ (ns : List Bool), RpL K H (ns.map V.bl) (ns.map Dv.bl)
  | [] => .nil
  | n :: ns => .cons (.bl n) (RpL.bls ns)
theorem RpL.ints_of : ∀ {ns : List Int} {vs : List V}, RpL K H vs (ns.map Dv.int) → vs = ns.map V.int
  | [], _, .nil => rfl
  | n :: ns, _, .cons (.int _) t => by rw [List.map_cons, RpL.ints_of t]
theorem RpL.strs_of : ∀ {ns : List Str} {vs : List V}, RpL K H vs (ns.map Dv.str) → vs = ns.map V.str
  | [], _, .nil => rfl
  | n :: ns, _, .cons (.str _) t => by rw [List.map_cons, RpL.strs_of t]
theorem RpL.bls_of : ∀ {ns : List Bool} {vs : List V}, RpL K H vs (ns.map Dv.bl) → vs = ns.map V.bl
  | [], _, .nil => rfl
  | n :: ns, _, .cons (.bl _) t => by rw [List.map_cons, RpL.bls_of t]
theorem RpF.get : ∀ {v : List (Str × V)} {d : List (Str × Dv)} {f : Str} {x : Dv}, RpF K H v d → d.lookup f = some x → ∃ u, v.lookup f = some u ∧ Rp K H u x
  | _, _, _, _, .nil, e => by simp at e
  | _, _, f, x, .cons (f := g) r t, e => by
    rw [List.lookup_cons] at e ⊢
    cases hb : f == g with
    | true =>
      rw [hb] at e
      cases e
      exact ⟨_, rfl, r⟩
    | false =>
      rw [hb] at e
      exact RpF.get t e
theorem RpF.none : ∀ {v : List (Str × V)} {d : List (Str × Dv)} {f : Str}, RpF K H v d → d.lookup f = none → v.lookup f = none
  | _, _, _, .nil, _ => rfl
  | _, _, f, .cons (f := g) r t, e => by
    rw [List.lookup_cons] at e ⊢
    cases hb : f == g with
    | true =>
      rw [hb] at e
      cases e
    | false =>
      rw [hb] at e
      exact RpF.none t e
theorem RpF.len : ∀ {v : List (Str × V)} {d : List (Str × Dv)}, RpF K H v d → v.length = d.length
  | _, _, .nil => rfl
  | _, _, .cons _ r => congrArg Nat.succ r.len
/-- a field stored, in the data -/
def putD (f : Str) (d : Dv) : List (Str × Dv) → List (Str × Dv)
  | [] => [(f, d)]
  | (g, e) :: r => if g = f then (g, d) :: r else (g, e) :: putD f d r
end
end Dw
namespace L2
open PySem PySem.Spec PyProof.Rows
/-- the object of a new tuple -/
abbrev tupOb (us : List Value) : Obj := { cls := .type "tuple", data := .seq us.toArray }
theorem ndo_tup (us : List Value) : Dw.NdO (tupOb us) := ⟨rfl, rfl⟩
section
variable {X : Cx} {pins : List (Addr × Obj)} {σ : St} {H : Hp} {s : Shared}
/-- a new tuple behind what stands -/
theorem new_tup {xs : List V} {us : List Value} {Q : VK} (iv : Inv X pins σ H s) (r : Vals xs us) (hz : xs.length ≤ sizeLine) (q : ∀ p, H p = none → ∀ o, Dw.NdO o → Q (.ref p) (upd H p (.frz o (.tup xs)))) :
    EP X pins σ Q (.ref s.heap.objs.size) { s with heap := s.heap.push (tupOb us) } := by
  have hn : H s.heap.objs.size = none := iv.hok.fresh (Nat.le_refl _)
  have ho : (s.heap.push (tupOb us)).get? s.heap.objs.size = some (tupOb us) := Heap.get?_push_size _ rfl
  refine ⟨.ref s.heap.objs.size, _, iv.laid (t' := s.toks) (o := .frz (tupOb us) (.tup xs)) (fun b u e => Heap.get?_push_of_some _ e) (Nat.le_refl _) ⟨ho, hz, us, r, ⟨_, ho, rfl, _, rfl⟩⟩, rfl, q _ hn _ (ndo_tup us)⟩
def tTupF (t : TA) : TE := fun σ H Q => t σ H fun xs H1 => xs.length ≤ sizeLine ∧ ∀ p, H1 p = none → ∀ o, Dw.NdO o → Q (.ref p) (upd H1 p (.frz o (.tup xs)))
theorem pe_tupF {es : List Expr} {x1 : Nat} {pos : Pos} {t : TA} (h : PA X es t) : PE X (.Tuple es x1 pos) (tTupF t) :=
  ⟨fun pins s σ H Q iv hq => wpAny_Tuple_spliced (thn (h.run pos pins s σ H _ iv hq) fun us z ⟨xs, G, iv2, r, hz, q⟩ => ⟨by rw [← r.length]; exact hz, new_tup iv2 r hz q⟩)⟩
def rTupleF (K : PySem.W.Frag) : List V → Hp → VK → Prop := fun xs H Q => ∃ p ys, xs = [.ref p] ∧ ((SqL K H p ys ∧ ∀ l, H l = none → ∀ o, Dw.NdO o → Q (.ref l) (upd H l (.frz o (.tup ys)))) ∨ (SqT K H p ys ∧ Q (.ref p) H))
theorem call_tupleF : CallR X (.type "tuple") (rTupleF X.K) := by
  intro pins s σ H xs us Q iv r h
  obtain ⟨p, ys, rfl, h⟩ := h
  obtain ⟨u, rfl, rx⟩ := vals1 r
  cases rx
  rcases h with ⟨hq, q⟩ | ⟨hq, q⟩
  · obtain ⟨its, rv, pl, hz⟩ := iv.list hq
    have hl := rv.length
    refine call_tuple_list pl.isList (fun hh kp => ?_) (by simp only [List.size_toArray] <;> omega)
    exact new_tup (s := { s with heap := hh }) (iv.kept (t' := s.toks) kp) rv hz q
  · obtain ⟨its, rv, pl, hz⟩ := iv.tuple hq
    exact call_tuple_same pl ⟨.ref p, H, iv, rfl, q⟩
def rCatF (K : PySem.W.Frag) : R2 := fun x y H Q => ∃ a b xs ys, x = .ref a ∧ y = .ref b ∧ SqT K H a xs ∧ SqT K H b ys ∧ xs.length + ys.length ≤ sizeLine ∧
  (xs = [] → Q (.ref b) H) ∧ (xs ≠ [] → ys = [] → Q (.ref a) H) ∧ (xs ≠ [] → ys ≠ [] → ∀ p, H p = none → ∀ o, Dw.NdO o → Q (.ref p) (upd H p (.frz o (.tup (xs ++ ys)))))
theorem op_catF : OpR X (binaryOp .Add) (rCatF X.K) := by
  intro pins s σ H x y v u Q iv rx ry h
  obtain ⟨a, b, xs, ys, rfl, rfl, ha, hb, hz, q0, q1, q2⟩ := h
  cases rx
  cases ry
  obtain ⟨ia, ra, pa, _⟩ := iv.tuple ha
  obtain ⟨ib, rb, pb, _⟩ := iv.tuple hb
  by_cases hx : xs = []
  · subst hx
    cases ra
    exact cat_tup0 pa pb ⟨.ref b, H, iv, rfl, q0 rfl⟩
  · refine HT.cat_tup pa pb (fun z => hx (ra.nil_iff.mp z)) (fun z => ⟨.ref a, H, iv, rfl, q1 hx (rb.nil_iff.mp z)⟩) (fun z => ?_) (by rw [← ra.length, ← rb.length]; exact hz)
    exact new_tup iv (ra.append rb) (by rw [List.length_append]; exact hz) (q2 hx fun w => z (rb.nil_iff.mpr w))
def rSlF (K : PySem.W.Frag) : V → Option Int → Option Int → Hp → VK → Prop := fun x lo hi H Q => ∃ a xs, x = .ref a ∧ SqT K H a xs ∧
  (HT.sIx xs.length 0 lo = 0 ∧ HT.sIx xs.length xs.length hi = xs.length → Q (.ref a) H) ∧ (¬ (HT.sIx xs.length 0 lo = 0 ∧ HT.sIx xs.length xs.length hi = xs.length) → ∀ p, H p = none → ∀ o, Dw.NdO o → Q (.ref p) (upd H p (.frz o (.tup (cutV xs lo hi)))))
theorem sl_tupF : SlR X (rSlF X.K) := by
  intro pins s σ H x v vl vu lo hi sl Q iv rx hs pl pu h
  obtain ⟨a, xs, rfl, hx, q1, q2⟩ := h
  cases rx
  obtain ⟨its, r, ht, hz⟩ := iv.tuple hx
  have hlen : its.toArray.size = xs.length := by rw [List.size_toArray]; exact r.length.symm
  refine ⟨"tuple", _, PyProof.Rows.slot_tuple_getitem.lookup, ht.typeIs, ?_⟩
  by_cases hw : HT.sIx xs.length 0 lo = 0 ∧ HT.sIx xs.length xs.length hi = xs.length
  · exact getItem_tuple_whole ht hs pl pu (by rw [hlen]; exact hw) ⟨.ref a, H, iv, rfl, q1 hw⟩
  · refine HT.getItem_tuple_cut ht hs pl pu (by rw [hlen]; exact hw) ?_ (by rw [hlen]; exact hz)
    rw [hlen]
    exact new_tup iv ((r.drop (HT.sIx xs.length 0 lo)).take (HT.sIx xs.length xs.length hi - HT.sIx xs.length 0 lo)) (Nat.le_trans (cutV_length xs lo hi) hz) (q2 hw)
def rDivmodF : List V → Hp → VK → Prop := fun xs H Q => ∃ i j, xs = [.int i, .int j] ∧ CDiv i j ∧ ∀ p, H p = none → ∀ o, Dw.NdO o → Q (.ref p) (upd H p (.frz o (.tup [.int (i / j), .int (i % j)])))
theorem call_divmodF : CallR X (.builtin "divmod") rDivmodF := by
  intro pins s σ H xs us Q iv r h
  obtain ⟨i, j, rfl, ⟨h1, h2⟩, q⟩ := h
  obtain ⟨u, u', rfl, ⟨t, rfl⟩, ⟨t', rfl⟩⟩ := vals2 r
  refine divmod_int (by omega) ?_ (.inl (PyProof.noPylong_small (by omega)))
  rw [Int.fdiv_eq_ediv_of_nonneg i (by omega), Int.fmod_eq_emod_of_nonneg i (by omega)]
  have hn : H s.heap.objs.size = none := iv.hok.fresh (Nat.le_refl _)
  have ho : ∀ us : List Value, (s.heap.push (tupOb us)).get? s.heap.objs.size = some (tupOb us) := fun us => Heap.get?_push_size _ rfl
  refine ⟨.ref s.heap.objs.size, _, ?_, rfl, q _ hn (tupOb [.int (i / j) s.toks, .int (i % j) (s.toks + 1)]) (ndo_tup _)⟩
  exact iv.laid (fun b o e => Heap.get?_push_of_some _ e) (Nat.le_refl _) ⟨ho _, by simp only [List.length_cons, List.length_nil]; rw [sizeLine_eq]; decide, [.int (i / j) s.toks, .int (i % j) (s.toks + 1)], .cons ⟨_, rfl⟩ (.cons ⟨_, rfl⟩ .nil), ⟨_, ho _, rfl, 0, rfl⟩⟩
def rRepF (K : PySem.W.Frag) : R2 := fun x y H Q => ∃ l k xs, x = .ref l ∧ y = .int k ∧ SqT K H l xs ∧ xs ≠ [] ∧ 2 ≤ k ∧ k ≤ 1000 ∧ xs.length ≤ 1000 ∧
  ∀ p, H p = none → ∀ o, Dw.NdO o → Q (.ref p) (upd H p (.frz o (.tup (List.replicate k.toNat xs).flatten)))
theorem op_repF : OpR X (binaryOp .Mult) (rRepF X.K) := by
  intro pins s σ H x y v u Q I rx ry h
  obtain ⟨l, k, xs, rfl, rfl, hT, hne, h1, h2, hz, q⟩ := h
  cases rx
  obtain ⟨t, rfl⟩ := ry
  obtain ⟨its, r, ⟨w, ho, hc, n, hd⟩, hs⟩ := I.tuple hT
  obtain ⟨cls, dd, data, sl⟩ := w
  dsimp only at hc hd
  subst hc hd
  have hle : its.length = xs.length := r.length.symm
  have hnn : its ≠ [] := fun e => hne (List.eq_nil_of_length_eq_zero (by rw [← hle, e]; rfl))
  have hi : its.toArray.isEmpty = false := by
    cases its with
    | nil => exact absurd rfl hnn
    | cons => rfl
  have hsz : its.toArray.size = xs.length := by rw [List.size_toArray]; exact hle
  have hmul : (xs.length : Int) * k ≤ 1000000 := by
    have := Int.mul_le_mul (a := (xs.length : Int)) (b := k) (c := 1000) (d := 1000) (by omega) (by omega) (by omega) (by omega)
    omega
  have hfl : (List.replicate k.toNat xs).flatten.length ≤ sizeLine := by
    rw [PyProof.Rows.lm_len_rep_flat, sizeLine_eq]
    have := Nat.mul_le_mul (show k.toNat ≤ 1000 by omega) hz
    omega
  have hfl' : (List.replicate k.toNat its).flatten.length ≤ sizeLine := by
    rw [PyProof.Rows.lm_len_rep_flat, hle, ← PyProof.Rows.lm_len_rep_flat]
    exact hfl
  refine wpAny_binaryOp_repeat_ref rfl ⟨_, ho, rfl⟩ (fun s' => typeIs_int s' k t) noFill_tuple_mul F.fills_int_mul F.slot_int_rmul repeat_tuple F.slot_int_index.lookup
    (call_meets F.slot_int_rmul (typeIs_int s k t) F.entry_int_rmul (F.args_int_rmul_2 (.int k t) (.ref l)) (int_rmul_tuple k t l its.toArray n dd sl)
      ⟨ho, rfl, ⟨_, ho, rfl⟩, call_meets F.slot_tuple_mul ⟨_, ho, rfl⟩ F.entry_tuple_mul (F.args_tuple_mul_2 (.ref l) (.int k t))
        (tuple_mulW l its.toArray n dd sl k t ?_ ?_ ?_ ?_ ?_ ?_) ⟨ho, ?_⟩⟩)
  · simp only [Bool.or_eq_false_iff, decide_eq_false_iff_not]; omega
  · rw [hi, Bool.false_or]; exact beq_eq_false_iff_ne.mpr (by omega)
  · rw [hi, Bool.or_false]; exact decide_eq_false (by omega)
  · rw [hsz]; omega
  · rw [hsz]
    show decide (_ > (sizeLine : Int)) = false
    rw [sizeLine_eq]; exact decide_eq_false (by omega)
  · rw [size_rep, List.size_toArray]; exact hfl'
  · rw [size_rep]
    exact new_tup I (Vals.rep r k.toNat) hfl q
theorem ndo_is {p : Addr} (iv : Inv X pins σ H s) (nd : Dw.NoD X.K H p) : s.TypeIs (.ref p) "tuple" ∧ ∀ a, Value.ref p = .ref a → ∃ ob, s.heap.get? a = some ob ∧ ob.dict = none := by
  have key : ∃ o, s.heap.get? p = some o ∧ Dw.NdO o := by
    rcases nd with ⟨o, u, e, z⟩ | ⟨o, e, z⟩
    · exact ⟨o, (iv.hok p _ e).1, z⟩
    · exact ⟨o, iv.kIn p o e, z⟩
  obtain ⟨o, e, z⟩ := key
  exact ⟨⟨o, e, z.1⟩, fun a q => by cases q; exact ⟨o, e, z.2⟩⟩
/-- a method of a tuple that has no dict -/
def tBMn (K : PySem.W.Frag) (r : V → List V → Hp → VK → Prop) (to : TE) (t : TA) : TE := fun σ H Q => to σ H fun x H1 => (∃ p, x = .ref p ∧ Dw.NoD K H1 p) ∧ t σ H1 fun xs H2 => r x xs H2 Q
theorem pe_bmN {o e : Expr} {es : List Expr} {to : TE} {t : TA} {name : Str} {apos cpos : Pos} {id : String} {r : V → List V → Hp → VK → Prop} (pa : PlainAttrs "tuple") (slot : Slot "tuple" name id)
    (hty : typeOf (.builtin id) = pure (.type "method_descriptor")) (hm : MtR X id r) (ho : PE X o to) (ha : PA X (e :: es) t)
    (hbase : attributeBase o name X.env (eval o X.env) = eval o X.env := by rfl)
    (hfew : ((((backTo cpos (starEach (e :: es) X.env)).all fun x => !x.fst) && (backToKw cpos (keywordEach [] X.env)).all fun x => x.fst.isSome) && decide (((e :: es).length + ([] : List (Option Str × Expr)).length + if ([] : List (Option Str × Expr)).isEmpty = true then 0 else 1) < 30)) = true := by rfl)
    (hline : (apos.endLine == cpos.line) = true := by rfl)
    (hs : starEach (e :: es) X.env = (false, eval e X.env) :: starEach es X.env := by rfl)
    (hplain : ((backTo cpos (starEach es X.env)).any fun x => x.fst) = false := by rfl) :
    PE X (.Call (.Attribute o name apos) (e :: es) [] cpos) (tBMn X.K r to t) :=
  ⟨fun pins s σ H Q I h => wpAny_Call_method_late hbase hfew hline rfl (thn (ho.run pins s σ H _ I h) fun v s1 ⟨x, H1, I1, r1, ⟨p, hx, nd⟩, q1⟩ => by
    subst hx
    have hv : v = .ref p := by cases r1; rfl
    subst hv
    obtain ⟨h1, h2⟩ := ndo_is I1 nd
    refine ⟨"tuple", id, pa, slot, hty, h1, h2, ?_⟩
    have hA := ha.run cpos pins s1 σ H1 _ I1 q1
    rw [hs] at hA ⊢
    refine Calls.callWith_builtin ((congrArg (false || ·) hplain).trans rfl) (Calls.evalArgs_plain (thn hA fun us s2 ⟨vs, H2, I2, r2, q2⟩ => hm pins s2 σ H2 _ vs _ us Q I2 r1 r2 q2)))⟩
end
end L2
namespace L2
open PySem PySem.Spec PyProof.Rows
abbrev ND := List (NestedKey × Addr × Value)
def DNat (P : Program) (w : World) (a : Addr) (xs : ND) (h : Heap) : Prop :=
  (a == sysModules) = false ∧ xs.length ≤ sizeLine ∧ (xs.map (·.1)).Nodup ∧ ∃ o es ep, h.get? a = some o ∧ o.ExactDict ∧ o.data = .dict es ep ∧ es.toList = xs.map (entryOfKey (nestedKind P w))
def dN (P : Program) (w : World) (a : Addr) (xs : ND) : HO := .ext (DNat P w a xs)
theorem dN_ok {P : Program} {w : World} {a : Addr} {xs : ND} {H : Hp} {h : Heap} (x : DNat P w a xs h) : ObjOk P w H h a (dN P w a xs) := by
  refine ⟨x, ?_, fun h1 h2 y k => ?_⟩
  · obtain ⟨_, _, _, o, _, _, e, _⟩ := x
    exact ⟨o, e⟩
  · obtain ⟨z, y1, y2, o, es, ep, e, r⟩ := y
    exact ⟨z, y1, y2, o, es, ep, k o e, r⟩
mutual
/-- v is a key -/
inductive NKey (K : PySem.W.Frag) (H : Hp) : NestedKey → V → Prop
  | non : NKey K H .none .non
  | bl (b : Bool) : NKey K H (.num (if b = true then 1 else 0)) (.bl b)
  | int (i : Int) : NKey K H (.num i) (.int i)
  | str (x : Str) : NKey K H (.text x) (.str x)
  | tup {a : Addr} {vs : List V} {ks : List NestedKey} : SqT K H a vs → NKeys K H ks vs → NKey K H (.tup ks) (.ref a)
inductive NKeys (K : PySem.W.Frag) (H : Hp) : List NestedKey → List V → Prop
  | nil : NKeys K H [] []
  | cons {v : V} {vs : List V} {k : NestedKey} {ks : List NestedKey} : NKey K H k v → NKeys K H ks vs → NKeys K H (k :: ks) (v :: vs)
end
section
variable {K : PySem.W.Frag} {H H' : Hp}
mutual
theorem NKey.mono (e : Same H H') : ∀ {k : NestedKey} {v : V}, NKey K H k v → NKey K H' k v
  | _, _, .non => .non
  | _, _, .bl b => .bl b
  | _, _, .int i => .int i
  | _, _, .str x => .str x
  | _, _, .tup h r => .tup (Dw.sqT_mono e h) (NKeys.mono e r)
theorem NKeys.mono (e : Same H H') : ∀ {k : List NestedKey} {v : List V}, NKeys K H k v → NKeys K H' k v
  | _, _, .nil => .nil
  | _, _, .cons h r => .cons (NKey.mono e h) (NKeys.mono e r)
end
end
section
variable {X : Cx} {pins : List (Addr × Obj)} {σ : St} {H : Hp} {s : Shared}
mutual
theorem NKey.is (I : Inv X pins σ H s) : ∀ {k : NestedKey} {v : V} {u : Value}, NKey X.K H k v → RelV v u → NestedIs s.heap k u
  | _, _, u, .non, r => by cases (show u = Value.none from r); exact .none
  | _, _, u, .bl b, r => by cases (show u = Value.bool b from r); exact .bool rfl
  | _, _, u, .int i, r => by obtain ⟨t, rfl⟩ := (show ∃ t, u = Value.int i t from r); exact .int i t
  | _, _, u, .str x, r => by obtain ⟨t, rfl⟩ := (show ∃ t, u = Value.str x t from r); exact .text x t
  | _, _, u, .tup (a := a) h q, r => by
    cases (show u = Value.ref a from r)
    obtain ⟨its, rv, ⟨o, ho, hc, n, hd⟩, _⟩ := I.tuple h
    exact .tup ho hc hd (by simpa using NKeys.is I q rv)
theorem NKeys.is (I : Inv X pins σ H s) : ∀ {k : List NestedKey} {v : List V} {u : List Value}, NKeys X.K H k v → Vals v u → NestedAll s.heap k u
  | _, _, _, .nil, .nil => .nil
  | _, _, _, .cons h q, .cons r rs => .cons (NKey.is I h r) (NKeys.is I q rs)
end
/-- the keys lie in the heap -/
def NAll (K : PySem.W.Frag) (H : Hp) (xs : ND) : Prop := ∀ y ∈ xs, NKey K H y.1 (.ref y.2.1) ∧ y.1.depth ≤ 8
theorem dn_at {d : Addr} {xs : ND} (I : Inv X pins σ H s) (h : H d = some (dN X.prog X.w d xs)) (hk : NAll X.K H xs) : (d == sysModules) = false ∧ xs.length ≤ sizeLine ∧ s.heap.DictOfH (nestedKind X.prog X.w) d xs := by
  obtain ⟨⟨z, hl, nd, o, es, ep, e, h1, h2, h3⟩, _⟩ := I.hok d _ h
  exact ⟨z, hl, o, es, ep, e, h1, h2, h3, fun y hy => ⟨(hk y hy).1.is I rfl, (hk y hy).2⟩, nd⟩
theorem nk_room {A : Around} (hu : A.units + 64 < cLine) : (nestedKind X.prog X.w).room A.in1 := by
  show A.units + 1 + 8 < cLine
  omega
end
/-! ### operations -/
def rNinN (K : PySem.W.Frag) (P : Program) (w : World) : R2 := fun x y H Q => ∃ d xs k b, x = .ref b ∧ y = .ref d ∧ H d = some (dN P w d xs) ∧ NAll K H xs ∧ NKey K H k x ∧ k.depth ≤ 8 ∧ Q (.bl (!(atKey xs k).isSome)) H
def rInN (K : PySem.W.Frag) (P : Program) (w : World) : R2 := fun x y H Q => ∃ d xs k b, x = .ref b ∧ y = .ref d ∧ H d = some (dN P w d xs) ∧ NAll K H xs ∧ NKey K H k x ∧ k.depth ≤ 8 ∧ Q (.bl (atKey xs k).isSome) H
def rIxN (K : PySem.W.Frag) (P : Program) (w : World) : R2 := fun x y H Q => ∃ d xs k b p v, y = .ref b ∧ x = .ref d ∧ H d = some (dN P w d xs) ∧ NAll K H xs ∧ NKey K H k y ∧ k.depth ≤ 8 ∧ atKey xs k = some p ∧ RelV v p.2 ∧ Q v H
def rSetN (K : PySem.W.Frag) (P : Program) (w : World) : V → V → V → Hp → (Hp → Prop) → Prop := fun o i v H Q => ∃ d xs k b, o = .ref d ∧ i = .ref b ∧ H d = some (dN P w d xs) ∧ NAll K H xs ∧ NKey K H k i ∧ k.depth ≤ 8 ∧ atKey xs k = none ∧ xs.length < sizeLine ∧
  ∀ u, RelV v u → Q (upd H d (dN P w d (xs ++ [(k, b, u)])))
def rGetN (K : PySem.W.Frag) (P : Program) (w : World) : V → List V → Hp → VK → Prop := fun x ys H Q => ∃ d xs k b v, x = .ref d ∧ ys = [.ref b] ∧ H d = some (dN P w d xs) ∧ NAll K H xs ∧ NKey K H k (.ref b) ∧ k.depth ≤ 8 ∧
  (∀ p, atKey xs k = some p → RelV v p.2) ∧ (atKey xs k = none → v = .non) ∧ Q v H
section
variable {X : Cx} {K : PySem.W.Frag}
theorem op_ninN (hu : X.A.units + 64 < cLine) (hK : X.K = K) : OpR X (compareOp .NotIn) (rNinN K X.prog X.w) := by
  subst hK
  intro pins s σ H x y v u Q I rx ry h
  obtain ⟨d, xs, k, b, rfl, rfl, hd, ha, hk, hz, q⟩ := h
  cases rx
  cases ry
  obtain ⟨z, hl, dd⟩ := dn_at I hd ha
  exact wpAny_notIn_heap (nk_room hu) ⟨hk.is I rfl, hz⟩ z dd ⟨.bl _, H, I.tok _, rfl, q⟩
theorem op_inN (hu : X.A.units + 64 < cLine) (hK : X.K = K) : OpR X (compareOp .In) (rInN K X.prog X.w) := by
  subst hK
  intro pins s σ H x y v u Q I rx ry h
  obtain ⟨d, xs, k, b, rfl, rfl, hd, ha, hk, hz, q⟩ := h
  cases rx
  cases ry
  obtain ⟨z, hl, dd⟩ := dn_at I hd ha
  exact wpAny_in_heap (nk_room hu) ⟨hk.is I rfl, hz⟩ z dd ⟨.bl _, H, I.tok _, rfl, q⟩
theorem set_N (hu : X.A.units + 64 < cLine) (hK : X.K = K) : PSet X (rSetN K X.prog X.w) := by
  subst hK
  intro pins s σ H o i v ov iv u Q I ro ri rv h
  obtain ⟨d, xs, k, b, rfl, rfl, hd, ha, hk, hz, hn, hlt, q⟩ := h
  cases ro
  cases ri
  obtain ⟨z, hl, dd⟩ := dn_at I hd ha
  refine wpAny_setItem_heap (hsz := hl) (nk_room hu) ⟨hk.is I rfl, hz⟩ dd fun h' dd' hs => ⟨_, ?_, q u rv⟩
  rw [storedH_new hn] at dd'
  obtain ⟨ob, es, ep, hq, h2, h3, h4, _, h5⟩ := dd'
  refine d_write I (by rw [hd]; exact True.intro) hs ⟨ob, hq⟩ (dN_ok ⟨z, by rw [List.length_append, List.length_singleton]; omega, h5, ob, es, ep, hq, h2, h3, h4⟩)
theorem mt_getN (hu : X.A.units + 64 < cLine) (hK : X.K = K) : MtR X "dict.get" (rGetN K X.prog X.w) := by
  subst hK
  intro pins s σ H x ys v us Q I rx ry h
  obtain ⟨d, xs, k, b, r, rfl, rfl, hd, ha, hk, hz, h1, h2, q⟩ := h
  cases rx
  cases ry with
  | cons r1 r2 =>
  cases r2
  cases r1
  obtain ⟨z, hl, dd⟩ := dn_at I hd ha
  refine call_meetsIn PySem.F.slot_dict_get dd.typeIs PySem.F.entry_dict_get (PySem.F.args_dict_get_2 _ _) (meetsH_dict_get (nestedKind X.prog X.w) d b z) ⟨nk_room hu, k, xs, ⟨hk.is I rfl, hz⟩, dd, ⟨r, H, I.tok _, ?_, q⟩⟩
  cases e : atKey xs k with
  | none => rw [h2 e]; rfl
  | some p => exact h1 p e
end
section
variable {X : Cx} {K : PySem.W.Frag} {o i : Expr} {pos : Pos} {to ti : TE}
theorem pe_ixN (hu : X.A.units + 64 < cLine) (hK : X.K = K) (ho : PE X o to) (hi : PE X i ti) (hs : NoSl i) : PE X (.Subscript o i pos) (tOp (rIxN K X.prog X.w) to ti) := by
  subst hK
  refine ⟨fun pins s σ H Q I h => ?_⟩
  refine subD_of PySem.F.slot_dict_getitem.lookup hs (thn (ho.run pins s σ H _ I h) fun u s1 ⟨x, H1, I1, rx, q1⟩ => thn (hi.run pins s1 σ H1 _ I1 q1) fun iv s2 ⟨y, H2, I2, ry, d, xs, k, b, p, v, ey, ex, hd, ha, hk, hz, hp, rv, q2⟩ => ?_)
  subst ex
  subst ey
  cases rx
  cases ry
  obtain ⟨z, hl, dd⟩ := dn_at I2 hd ha
  exact ⟨dd.typeIs, wpAny_getItem_heap (nk_room hu) ⟨hk.is I2 rfl, hz⟩ dd hp ⟨v, H2, I2.tok _, rv, q2⟩⟩
/-- {}, to be a dict of nested keys -/
def tDNewN (P : Program) (w : World) : TE := fun _ H Q => ∀ p, H p = none → Q (.ref p) (upd H p (dN P w p []))
theorem pe_dnewN : PE X (.Dict [] [] pos) (tDNewN X.prog X.w) := ⟨fun pins s σ H Q I h =>
  wpAny_Dict_empty ⟨.ref s.heap.objs.size, _, I.laid (a := s.heap.objs.size) (o := dN X.prog X.w s.heap.objs.size []) (t' := s.toks) (fun _ _ q => Heap.get?_push_of_some _ q) (Nat.le_refl _)
    (dN_ok ⟨beq_eq_false_iff_ne.mpr (Ne.symm (Nat.ne_of_lt I.big)), Nat.zero_le _, List.nodup_nil, _, #[], 0, Heap.get?_push_size _ rfl, ⟨rfl, rfl, rfl⟩, rfl, rfl⟩), rfl, h _ (I.hok.fresh (Nat.le_refl _))⟩⟩
end
end L2
namespace Dw
open PySem L2
/-- the pairs of such a dict, as data -/
inductive DctL (K : PySem.W.Frag) (H : Hp) : ND → List (NestedKey × Dv) → Prop
  | nil : DctL K H [] []
  | cons {k : NestedKey} {b : Addr} {u : Value} {v : V} {d : Dv} {xs : ND} {ds : List (NestedKey × Dv)} : NKey K H k (.ref b) → k.depth ≤ 8 → RelV v u → Rp K H v d → DctL K H xs ds → DctL K H ((k, b, u) :: xs) ((k, d) :: ds)
section
variable {K : PySem.W.Frag} {H H' : Hp}
theorem DctL.mono (e : Same H H') : ∀ {xs : ND} {ds : List (NestedKey × Dv)}, DctL K H xs ds → DctL K H' xs ds
  | _, _, .nil => .nil
  | _, _, .cons h1 h2 h3 h4 r => .cons (h1.mono e) h2 h3 (h4.mono e) (r.mono e)
theorem DctL.all : ∀ {xs : ND} {ds : List (NestedKey × Dv)}, DctL K H xs ds → NAll K H xs
  | _, _, .nil => fun _ h => (nomatch h)
  | _, _, .cons h1 h2 _ _ r => fun y hy => (List.mem_cons.mp hy).elim (fun e => by rw [e]; exact ⟨h1, h2⟩) (r.all y)
theorem DctL.len : ∀ {xs : ND} {ds : List (NestedKey × Dv)}, DctL K H xs ds → xs.length = ds.length
  | _, _, .nil => rfl
  | _, _, .cons _ _ _ _ r => congrArg Nat.succ r.len
theorem DctL.snoc {k : NestedKey} {b : Addr} {u : Value} {v : V} {d : Dv} (h1 : NKey K H k (.ref b)) (h2 : k.depth ≤ 8) (h3 : RelV v u) (h4 : Rp K H v d) : ∀ {xs : ND} {ds : List (NestedKey × Dv)}, DctL K H xs ds → DctL K H (xs ++ [(k, b, u)]) (ds ++ [(k, d)])
  | _, _, .nil => .cons h1 h2 h3 h4 .nil
  | _, _, .cons a1 a2 a3 a4 r => .cons a1 a2 a3 a4 (r.snoc h1 h2 h3 h4)
/-- the value at a key -/
def valN (ds : List (NestedKey × Dv)) (k : NestedKey) : Option Dv := (ds.find? fun kv => decide (kv.1 = k)).map (·.2)
theorem DctL.at {k : NestedKey} : ∀ {xs : ND} {ds : List (NestedKey × Dv)}, DctL K H xs ds → (valN ds k = none → atKey xs k = none) ∧ ∀ d, valN ds k = some d → ∃ p v, atKey xs k = some p ∧ RelV v p.2 ∧ Rp K H v d
  | _, _, .nil => ⟨fun _ => rfl, fun d h => (nomatch h)⟩
  | _, _, .cons (k := k') (b := b) (u := u) (v := v) (d := d') (xs := xs) (ds := ds) h1 h2 h3 h4 r => by
    by_cases e : k' = k
    · have e1 : valN ((k', d') :: ds) k = some d' := by unfold valN; rw [List.find?_cons_of_pos (by simpa using e)]; rfl
      have e2 : atKey ((k', b, u) :: xs) k = some (b, u) := by unfold atKey; rw [List.find?_cons_of_pos (by simpa using e)]; rfl
      rw [e1, e2]
      refine ⟨fun h => (nomatch h), fun d h => ?_⟩
      cases h
      exact ⟨_, v, rfl, h3, h4⟩
    · have e1 : valN ((k', d') :: ds) k = valN ds k := by unfold valN; rw [List.find?_cons_of_neg (by simpa using e)]
      have e2 : atKey ((k', b, u) :: xs) k = atKey xs k := by unfold atKey; rw [List.find?_cons_of_neg (by simpa using e)]
      rw [e1, e2]
      exact r.at
/-- data as a key -/
def nkD : Dv → NestedKey
  | .bl b => .num (if b = true then 1 else 0)
  | .int i => .num i
  | .str x => .text x
  | .tup xs => .tup (nkL xs)
  | _ => .none
where nkL : List Dv → List NestedKey
  | [] => []
  | d :: ds => nkD d :: nkL ds
/-- n deep at most, and may be a key -/
def Hb : Nat → Dv → Prop
  | _, .non => True
  | _, .bl _ => True
  | _, .int _ => True
  | _, .str _ => True
  | n + 1, .tup xs => ∀ x ∈ xs, Hb n x
  | _, _ => False
theorem rpL_nk {n : Nat} (ih : ∀ {v : V} {d : Dv}, Hb n d → Rp K H v d → NKey K H (nkD d) v) : ∀ {vs : List V} {ds : List Dv}, (∀ x ∈ ds, Hb n x) → RpL K H vs ds → NKeys K H (nkD.nkL ds) vs
  | _, _, _, .nil => .nil
  | _, _, p, .cons h r => .cons (ih (p _ (List.mem_cons_self ..)) h) (rpL_nk ih (fun x hx => p x (List.mem_cons_of_mem _ hx)) r)
theorem rp_nk : ∀ (n : Nat) {v : V} {d : Dv}, Hb n d → Rp K H v d → NKey K H (nkD d) v := by
  intro n
  induction n with
  | zero =>
    intro v d p r
    cases r with
    | non => exact .non
    | bl b => exact .bl b
    | int i => exact .int i
    | str x => exact .str x
    | _ => exact p.elim
  | succ n ih =>
    intro v d p r
    cases r with
    | non => exact .non
    | bl b => exact .bl b
    | int i => exact .int i
    | str x => exact .str x
    | tup h r => exact .tup h.1 (rpL_nk ih p r)
    | _ => exact p.elim
theorem nk_depthL {n : Nat} (ih : ∀ d, Hb n d → (nkD d).depth ≤ n) : ∀ ds : List Dv, (∀ x ∈ ds, Hb n x) → NestedKey.depthAll (nkD.nkL ds) ≤ n
  | [], _ => Nat.zero_le _
  | d :: ds, p => Nat.max_le.mpr ⟨ih d (p _ (List.mem_cons_self ..)), nk_depthL ih ds fun x hx => p x (List.mem_cons_of_mem _ hx)⟩
theorem nk_depth : ∀ (n : Nat) (d : Dv), Hb n d → (nkD d).depth ≤ n := by
  intro n
  induction n with
  | zero =>
    intro d p
    cases d <;> first | exact p.elim | exact Nat.le_refl 0
  | succ n ih =>
    intro d p
    cases d with
    | tup xs => exact Nat.succ_le_succ (nk_depthL ih xs p)
    | _ => first | exact p.elim | exact Nat.zero_le _
end
end Dw
namespace Dw
open PySem L2

def hid (l : List Addr) (H : Hp) : Hp := fun a => if a ∈ l then none else H a
theorem hid_in {l : List Addr} {H : Hp} {a : Addr} (h : a ∈ l) : hid l H a = none := by unfold hid; rw [if_pos h]
theorem hid_out {l : List Addr} {H : Hp} {a : Addr} (h : a ∉ l) : hid l H a = H a := by unfold hid; rw [if_neg h]
theorem hid_some {l : List Addr} {H : Hp} {a : Addr} {o : HO} (h : hid l H a = some o) : a ∉ l ∧ H a = some o := by
  by_cases m : a ∈ l
  · rw [hid_in m] at h; cases h
  · rw [hid_out m] at h; exact ⟨m, h⟩
theorem hid_same {l : List Addr} {H H' : Hp} (e : Same H H') : Same (hid l H) (hid l H') := fun a o h => by
  obtain ⟨m, q⟩ := hid_some h
  rw [hid_out m]
  exact e a o q
theorem hid_sub (l : List Addr) (H : Hp) : Same (hid l H) H := fun _ _ h => (hid_some h).2

/-- what a mutable object holds -/
inductive Mv where
  | lst (ds : List Dv) | ins (C : Addr) (fs : List (Str × Dv)) | dct (P : PySem.Program) (w : PySem.World) (ds : List (NestedKey × Dv))
  | kst (P : PySem.Program) (w : PySem.World) (S : Key → Bool) (n : Nat) | kd (ds : List (Key × Dv))
abbrev Mu := List (Addr × Mv)
abbrev ads (M : Mu) : List Addr := M.map (·.1)
abbrev Ga := List (Option Dv)

def MvOk (K : PySem.W.Frag) (l : List Addr) (H : Hp) (p : Addr) : Mv → Prop
  | .lst ds => ∃ xs, H p = some (.lst xs) ∧ RpL K (hid l H) xs ds
  | .ins C fs => ∃ dx gs, H p = some (.ins C dx gs) ∧ RpF K (hid l H) gs fs
  | .dct P w ds => ∃ xs, H p = some (dN P w p xs) ∧ DctL K (hid l H) xs ds
  | .kst P w S n => H p = some (SetK P w p S n)
  | .kd ds => ∃ xs, H p = some (.dK xs) ∧ RpK K (hid l H) xs ds

structure Ms (K : PySem.W.Frag) (F : List Addr) (M : Mu) (H : Hp) : Prop where
  ok : ∀ q ∈ M, MvOk K (ads M ++ F) H q.1 q.2
  nd : (ads M).Nodup
  ff : ∀ a ∈ F, ∃ o, H a = some o
  ap : ∀ a ∈ F, a ∉ ads M
structure Sl (K : PySem.W.Frag) (l : List Addr) (H : Hp) (σ : L2.St) (Γ : Ga) : Prop where
  len : Γ.length = σ.length
  sl : ∀ (i : Nat) (d : Dv), Γ[i]? = some (some d) → ∃ v, σ[i]? = some (some v) ∧ Rp K (hid l H) v d
structure Stt (K : PySem.W.Frag) (Pm F : List Addr) (M : Mu) (H0 H : Hp) (σ : L2.St) (Γ : Ga) : Prop where
  fr : ∀ a o, a ∉ Pm → H0 a = some o → H a = some o
  loc : ∀ q ∈ M, q.1 ∈ Pm ∨ H0 q.1 = none
  ms : Ms K F M H
  s : Sl K (ads M ++ F) H σ Γ

section
variable {K : PySem.W.Frag} {Pm F : List Addr} {M M' : Mu} {H0 H H' : Hp} {σ : L2.St} {Γ : Ga} {l : List Addr} {p : Addr}
theorem MvOk.there {m : Mv} (h : MvOk K l H p m) : ∃ o, H p = some o := by
  cases m with
  | lst ds => obtain ⟨xs, e, _⟩ := h; exact ⟨_, e⟩
  | ins C fs => obtain ⟨dx, gs, e, _⟩ := h; exact ⟨_, e⟩
  | dct P w ds => obtain ⟨xs, e, _⟩ := h; exact ⟨_, e⟩
  | kst P w S n => exact ⟨_, h⟩
  | kd ds => obtain ⟨xs, e, _⟩ := h; exact ⟨_, e⟩
theorem MvOk.keep {m : Mv} {l' : List Addr} (h : MvOk K l H p m) (e : Same (hid l H) (hid l' H')) (hp : ∀ o, H p = some o → H' p = some o) : MvOk K l' H' p m := by
  cases m with
  | lst ds => obtain ⟨xs, q, r⟩ := h; exact ⟨xs, hp _ q, r.mono e⟩
  | ins C fs => obtain ⟨dx, gs, q, r⟩ := h; exact ⟨dx, gs, hp _ q, RpF.mono e r⟩
  | dct P w ds => obtain ⟨xs, q, r⟩ := h; exact ⟨xs, hp _ q, r.mono e⟩
  | kst P w S n => exact hp _ h
  | kd ds => obtain ⟨xs, q, r⟩ := h; exact ⟨xs, hp _ q, RpK.mono e r⟩
theorem Ms.mono (h : Ms K F M H) (e : Same H H') : Ms K F M H' :=
  ⟨fun q hq => (h.ok q hq).keep (hid_same e) fun o => e _ o, h.nd, fun a ha => let ⟨o, q⟩ := h.ff a ha; ⟨o, e _ _ q⟩, h.ap⟩
theorem Sl.keep {l' : List Addr} (h : Sl K l H σ Γ) (e : Same (hid l H) (hid l' H')) : Sl K l' H' σ Γ :=
  ⟨h.len, fun i d q => let ⟨v, a, r⟩ := h.sl i d q; ⟨v, a, r.mono e⟩⟩
theorem Sl.mono (h : Sl K l H σ Γ) (e : Same H H') : Sl K l H' σ Γ := h.keep (hid_same e)
theorem Stt.mono (h : Stt K Pm F M H0 H σ Γ) (e : Same H H') : Stt K Pm F M H0 H' σ Γ :=
  ⟨fun a o n q => e _ _ (h.fr a o n q), h.loc, h.ms.mono e, h.s.mono e⟩
/-- a new address is none of the hidden ones -/
theorem Ms.fresh (h : Ms K F M H) (n : H p = none) : p ∉ ads M ++ F := fun hm => by
  rcases List.mem_append.mp hm with a | a
  · obtain ⟨q, hq, e⟩ := List.mem_map.mp a
    obtain ⟨o, z⟩ := (h.ok q hq).there
    rw [e, n] at z; cases z
  · obtain ⟨o, z⟩ := h.ff p a
    rw [n] at z; cases z
theorem same_new {o : HO} (n : H p = none) : Same H (upd H p o) := fun b u e => by
  rw [upd_ne (ne_of_none e n)]
  exact e
/-- a new object among the data -/
theorem Ms.newL {xs : List V} {ds : List Dv} (h : Ms K F M H) (n : H p = none) (r : RpL K (hid (ads M ++ F) H) xs ds) : Rp K (hid (ads M ++ F) (upd H p (.lst xs))) (.ref p) (.lst ds) :=
  .lst (by rw [hid_out (h.fresh n)]; exact upd_same) (r.mono (hid_same (same_new n)))
theorem Ms.newS {xs : List V} {ds : List Dv} (h : Ms K F M H) (n : H p = none) (r : RpL K (hid (ads M ++ F) H) xs ds) : Rp K (hid (ads M ++ F) (upd H p (.tup xs))) (.ref p) (.stp ds) :=
  .stp (.inl (.inl (by rw [hid_out (h.fresh n)]; exact upd_same))) (r.mono (hid_same (same_new n)))
theorem Ms.newT {xs : List V} {ds : List Dv} (h : Ms K F M H) (n : H p = none) {o : PySem.Obj} (z : NdO o) (r : RpL K (hid (ads M ++ F) H) xs ds) : Rp K (hid (ads M ++ F) (upd H p (.frz o (.tup xs)))) (.ref p) (.tup ds) :=
  .tup ⟨.inl (.inr ⟨o, by rw [hid_out (h.fresh n)]; exact upd_same⟩), .inl ⟨o, _, by rw [hid_out (h.fresh n)]; exact upd_same, z⟩⟩ (r.mono (hid_same (same_new n)))
theorem Stt.set (h : Stt K Pm F M H0 H σ Γ) {v : V} {d : Dv} (i : Nat) (r : Rp K (hid (ads M ++ F) H) v d) : Stt K Pm F M H0 H (σ.set i (some v)) (Γ.set i (some d)) := by
  refine ⟨h.fr, h.loc, h.ms, by rw [List.length_set, List.length_set]; exact h.s.len, fun j e q => ?_⟩
  by_cases hj : i = j
  · subst hj
    by_cases hl : i < Γ.length
    · rw [List.getElem?_set_self hl] at q
      cases q
      exact ⟨v, by rw [List.getElem?_set_self (by rw [← h.s.len]; exact hl)], r⟩
    · rw [List.getElem?_eq_none (by rw [List.length_set]; omega)] at q
      cases q
  · rw [List.getElem?_set_ne hj] at q
    obtain ⟨u, a, b⟩ := h.s.sl j e q
    exact ⟨u, by rw [List.getElem?_set_ne hj]; exact a, b⟩
end

/-! ### expressions that change nothing -/
def EvD (K : PySem.W.Frag) (F : List Addr) (M : Mu) (te : TE) (Γ : Ga) (d : Dv) : Prop :=
  ∀ σ H, Ms K F M H → Sl K (ads M ++ F) H σ Γ → ∀ Q : VK, (∀ v H', Same H H' → Rp K (hid (ads M ++ F) H') v d → Q v H') → te σ H Q
def EvA (K : PySem.W.Frag) (F : List Addr) (M : Mu) (ta : TA) (Γ : Ga) (ds : List Dv) : Prop :=
  ∀ σ H, Ms K F M H → Sl K (ads M ++ F) H σ Γ → ∀ Q : List V → Hp → Prop, (∀ vs H', Same H H' → RpL K (hid (ads M ++ F) H') vs ds → Q vs H') → ta σ H Q
def EvT (K : PySem.W.Frag) (F : List Addr) (M : Mu) (tt : TT) (Γ : Ga) (b : Bool) : Prop :=
  ∀ σ H, Ms K F M H → Sl K (ads M ++ F) H σ Γ → ∀ Q : Bool → Hp → Prop, (∀ H', Same H H' → Q b H') → tt σ H Q
def EvO (K : PySem.W.Frag) (F : List Addr) (M : Mu) (to : TO) (Γ : Ga) (o : Option Int) : Prop :=
  ∀ σ H, Ms K F M H → Sl K (ads M ++ F) H σ Γ → ∀ Q : Option Int → Hp → Prop, (∀ H', Same H H' → Q o H') → to σ H Q
/-- an operation on values -/
def OpD (K : PySem.W.Frag) (F : List Addr) (M : Mu) (r : R2) (x y z : Dv) : Prop :=
  ∀ v w H, Ms K F M H → Rp K (hid (ads M ++ F) H) v x → Rp K (hid (ads M ++ F) H) w y → ∀ Q : VK, (∀ u H', Same H H' → Rp K (hid (ads M ++ F) H') u z → Q u H') → r v w H Q
def UnD (K : PySem.W.Frag) (F : List Addr) (M : Mu) (r : V → Hp → VK → Prop) (x z : Dv) : Prop :=
  ∀ v H, Ms K F M H → Rp K (hid (ads M ++ F) H) v x → ∀ Q : VK, (∀ u H', Same H H' → Rp K (hid (ads M ++ F) H') u z → Q u H') → r v H Q
def CaD (K : PySem.W.Frag) (F : List Addr) (M : Mu) (r : List V → Hp → VK → Prop) (xs : List Dv) (z : Dv) : Prop :=
  ∀ vs H, Ms K F M H → RpL K (hid (ads M ++ F) H) vs xs → ∀ Q : VK, (∀ u H', Same H H' → Rp K (hid (ads M ++ F) H') u z → Q u H') → r vs H Q

section
variable {K : PySem.W.Frag} {F : List Addr} {M : Mu} {Γ : Ga} {ta tb te : TE} {x y z d : Dv} {t u : TT}
theorem ed_var {i : Nat} (h : Γ[i]? = some (some d)) : EvD K F M (tVar i) Γ d := fun σ H _ s Q q => by
  obtain ⟨v, e, r⟩ := s.sl i d h
  exact ⟨v, e, q v H (Same.refl H) r⟩
theorem ed_c {v : V} (h : ∀ H, Rp K H v d) : EvD K F M (tC v) Γ d := fun σ H _ _ Q q => q v H (Same.refl H) (h _)
theorem ed_int {i : Int} : EvD K F M (tC (.int i)) Γ (.int i) := ed_c fun _ => .int i
theorem ed_str {i : Str} : EvD K F M (tC (.str i)) Γ (.str i) := ed_c fun _ => .str i
theorem ed_bl {i : Bool} : EvD K F M (tC (.bl i)) Γ (.bl i) := ed_c fun _ => .bl i
theorem ed_non : EvD K F M (tC .non) Γ .non := ed_c fun _ => .non
theorem ed_op {r : R2} (ha : EvD K F M ta Γ x) (hb : EvD K F M tb Γ y) (hr : OpD K F M r x y z) : EvD K F M (tOp r ta tb) Γ z := fun σ H m s Q q =>
  ha σ H m s _ fun v H1 e1 r1 => hb σ H1 (m.mono e1) (s.mono e1) _ fun w H2 e2 r2 => hr v w H2 ((m.mono e1).mono e2) (r1.mono (hid_same e2)) r2 Q fun u H3 e3 r3 => q u H3 ((e1.trans e2).trans e3) r3
theorem ed_un {r : V → Hp → VK → Prop} (ha : EvD K F M ta Γ x) (hr : UnD K F M r x z) : EvD K F M (tUn r ta) Γ z := fun σ H m s Q q =>
  ha σ H m s _ fun v H1 e1 r1 => hr v H1 (m.mono e1) r1 Q fun u H3 e3 r3 => q u H3 (e1.trans e3) r3
theorem ea_nil : EvA K F M tNil Γ [] := fun σ H _ _ Q q => q [] H (Same.refl H) .nil
theorem ea_cons {tr : TA} {ds : List Dv} (ha : EvD K F M ta Γ x) (hb : EvA K F M tr Γ ds) : EvA K F M (tCons ta tr) Γ (x :: ds) := fun σ H m s Q q =>
  ha σ H m s _ fun v H1 e1 r1 => hb σ H1 (m.mono e1) (s.mono e1) _ fun vs H2 e2 r2 => q _ H2 (e1.trans e2) (.cons (r1.mono (hid_same e2)) r2)
theorem sz_of {n : Nat} (h : n ≤ 100000) : n ≤ sizeLine := Nat.le_trans h (by decide)
theorem sz_lt {n : Nat} (h : n < 100000) : n < sizeLine := Nat.lt_of_lt_of_le h (by decide)
theorem ed_tup {tA : TA} {ds : List Dv} (h : EvA K F M tA Γ ds) (hl : ds.length ≤ 100000) : EvD K F M (tTupF tA) Γ (.tup ds) := fun σ H m s Q q =>
  h σ H m s _ fun vs H1 e1 r1 => ⟨sz_of (by rw [r1.len]; exact hl), fun p hp o z => q _ _ (e1.trans (same_new hp)) ((m.mono e1).newT hp z r1)⟩
theorem ed_lst {tA : TA} {ds : List Dv} (h : EvA K F M tA Γ ds) (hl : ds.length ≤ 100000) : EvD K F M (tLst tA) Γ (.lst ds) := fun σ H m s Q q =>
  h σ H m s _ fun vs H1 e1 r1 => ⟨sz_of (by rw [r1.len]; exact hl), fun p hp => q _ _ (e1.trans (same_new hp)) ((m.mono e1).newL hp r1)⟩
theorem ed_cb {r : List V → Hp → VK → Prop} {tA : TA} {ds : List Dv} (h : EvA K F M tA Γ ds) (hr : CaD K F M r ds z) : EvD K F M (tCB r tA) Γ z := fun σ H m s Q q =>
  h σ H m s _ fun vs H1 e1 r1 => hr vs H1 (m.mono e1) r1 Q fun u H2 e2 r2 => q u H2 (e1.trans e2) r2
/-! tests -/
theorem et_cmp (h : EvD K F M te Γ (.bl b)) : EvT K F M (tTest te) Γ b := fun σ H m s Q q => h σ H m s _ fun v H1 e1 r1 => by
  cases r1
  exact ⟨b, rfl, q H1 e1⟩
theorem et_val (h : EvD K F M te Γ (.bl b)) : EvT K F M (tB te) Γ b := fun σ H m s Q q => h σ H m s _ fun v H1 e1 r1 => by
  cases r1
  exact ⟨b, rfl, q H1 e1⟩
theorem et_and {a b : Bool} (h1 : EvT K F M t Γ a) (h2 : a = true → EvT K F M u Γ b) : EvT K F M (tAnd t u) Γ (a && b) := fun σ H m s Q q => h1 σ H m s _ fun H1 e1 => by
  cases a with
  | true => exact iteT (h2 rfl σ H1 (m.mono e1) (s.mono e1) Q fun H2 e2 => q H2 (e1.trans e2))
  | false => exact iteF (q H1 e1)
theorem et_or {a b : Bool} (h1 : EvT K F M t Γ a) (h2 : a = false → EvT K F M u Γ b) : EvT K F M (tOr t u) Γ (a || b) := fun σ H m s Q q => h1 σ H m s _ fun H1 e1 => by
  cases a with
  | false => exact iteF (h2 rfl σ H1 (m.mono e1) (s.mono e1) Q fun H2 e2 => q H2 (e1.trans e2))
  | true => exact iteT (q H1 e1)
theorem et_not {a : Bool} (h1 : EvT K F M t Γ a) : EvT K F M (tNot t) Γ (!a) := fun σ H m s Q q => h1 σ H m s _ fun H1 e1 => q H1 e1
theorem et_is {a b : Bool} (h : EvT K F M t Γ a) (e : a = b) : EvT K F M t Γ b := e ▸ h
theorem ed_is {w : Dv} (h : EvD K F M te Γ w) (e : w = z) : EvD K F M te Γ z := e ▸ h
/-- a if t else b -/
theorem ed_if {b : Bool} (h : EvT K F M t Γ b) (h1 : b = true → EvD K F M ta Γ z) (h2 : b = false → EvD K F M tb Γ z) : EvD K F M (tIf t ta tb) Γ z := fun σ H m s Q q => h σ H m s _ fun H1 e1 => by
  cases b with
  | true => exact iteT (h1 rfl σ H1 (m.mono e1) (s.mono e1) Q fun v H2 e2 => q v H2 (e1.trans e2))
  | false => exact iteF (h2 rfl σ H1 (m.mono e1) (s.mono e1) Q fun v H2 e2 => q v H2 (e1.trans e2))
theorem ed_ite {b : Bool} (h : EvT K F M t Γ b) (h1 : EvD K F M ta Γ x) (h2 : EvD K F M tb Γ y) : EvD K F M (tIf t ta tb) Γ (if b then x else y) :=
  ed_if h (fun e => by rw [e]; exact h1) (fun e => by rw [e]; exact h2)

/-! operations -/
theorem od_int {g : Int → Int → V} {i j : Int} (hz : ∀ H, Rp K H (g i j) z) : OpD K F M (rI0 g) (.int i) (.int j) z := fun v w H _ r1 r2 Q q => by
  cases r1; cases r2
  exact ⟨i, j, rfl, rfl, q _ H (Same.refl H) (hz _)⟩
theorem od_intC {C : Int → Int → Prop} {g : Int → Int → V} {i j : Int} (hc : C i j) (hz : ∀ H, Rp K H (g i j) z) : OpD K F M (rI C g) (.int i) (.int j) z := fun v w H _ r1 r2 Q q => by
  cases r1; cases r2
  exact ⟨i, j, rfl, rfl, hc, q _ H (Same.refl H) (hz _)⟩
end
end Dw
namespace Dw
open PySem L2

abbrev Kp (F : List Addr) (M : Mu) (H : Hp) (M' : Mu) (H' : Hp) : Prop := Same (hid (ads M ++ F) H) (hid (ads M' ++ F) H')
theorem Kp.of {F : List Addr} {M : Mu} {H H' : Hp} (e : Same H H') : Kp F M H M H' := hid_same e

def WpX (K : PySem.W.Frag) (Pm F : List Addr) (te : TE) (Γ : Ga) (M : Mu) (R : Dv → Mu → Prop) : Prop :=
  ∀ H0 σ H, Stt K Pm F M H0 H σ Γ → ∀ Q : VK, (∀ v H' d M', R d M' → Stt K Pm F M' H0 H' σ Γ → Kp F M H M' H' → Rp K (hid (ads M' ++ F) H') v d → Q v H') → te σ H Q
def WpA (K : PySem.W.Frag) (Pm F : List Addr) (ta : TA) (Γ : Ga) (M : Mu) (R : List Dv → Mu → Prop) : Prop :=
  ∀ H0 σ H, Stt K Pm F M H0 H σ Γ → ∀ Q : List V → Hp → Prop, (∀ vs H' ds M', R ds M' → Stt K Pm F M' H0 H' σ Γ → Kp F M H M' H' → RpL K (hid (ads M' ++ F) H') vs ds → Q vs H') → ta σ H Q
def WpT (K : PySem.W.Frag) (Pm F : List Addr) (tt : TT) (Γ : Ga) (M : Mu) (R : Bool → Mu → Prop) : Prop :=
  ∀ H0 σ H, Stt K Pm F M H0 H σ Γ → ∀ Q : Bool → Hp → Prop, (∀ b H' M', R b M' → Stt K Pm F M' H0 H' σ Γ → Kp F M H M' H' → Q b H') → tt σ H Q
structure Po where
  n : Ga → Mu → Prop
  r : Dv → Mu → Prop
  b : Ga → Mu → Prop := fun _ _ => False
  c : Ga → Mu → Prop := fun _ _ => False
def WpS (K : PySem.W.Frag) (Pm F : List Addr) (t : TS) (Γ : Ga) (M : Mu) (P : Po) : Prop :=
  ∀ H0 σ H D, Stt K Pm F M H0 H σ Γ →
    (∀ σ' H' Γ' M', P.n Γ' M' → Stt K Pm F M' H0 H' σ' Γ' → Kp F M H M' H' → D.nx σ' H') →
    (∀ v σ' H' Γ' d M', P.r d M' → Stt K Pm F M' H0 H' σ' Γ' → Kp F M H M' H' → Rp K (hid (ads M' ++ F) H') v d → D.rt v H') →
    (∀ σ' H' Γ' M', P.b Γ' M' → Stt K Pm F M' H0 H' σ' Γ' → Kp F M H M' H' → D.bk σ' H') →
    (∀ σ' H' Γ' M', P.c Γ' M' → Stt K Pm F M' H0 H' σ' Γ' → Kp F M H M' H' → D.ct σ' H') → t D σ H

section
variable {K : PySem.W.Frag} {Pm F : List Addr} {M : Mu} {Γ : Ga} {ta tb te : TE} {x y z d : Dv} {t u : TT} {R : Dv → Mu → Prop} {RA : List Dv → Mu → Prop} {RT : Bool → Mu → Prop} {P : Po}
theorem wx_pure (h : EvD K F M te Γ d) (k : R d M) : WpX K Pm F te Γ M R := fun H0 σ H S Q q =>
  h σ H S.ms S.s Q fun v H' e r => q v H' d M k (S.mono e) (Kp.of e) r
theorem wx_imp {R' : Dv → Mu → Prop} (h : WpX K Pm F te Γ M R') (k : ∀ d M', R' d M' → R d M') : WpX K Pm F te Γ M R := fun H0 σ H S Q q =>
  h H0 σ H S Q fun v H' d M' r => q v H' d M' (k _ _ r)
theorem wx_op {r : R2} (h : WpX K Pm F ta Γ M fun x M1 => WpX K Pm F tb Γ M1 fun y M2 => ∃ z, OpD K F M2 r x y z ∧ R z M2) : WpX K Pm F (tOp r ta tb) Γ M R := fun H0 σ H S Q q =>
  h H0 σ H S _ fun v H1 x M1 h1 S1 k1 r1 => h1 H0 σ H1 S1 _ fun w H2 y M2 ⟨z, hz, hR⟩ S2 k2 r2 =>
    hz v w H2 S2.ms (r1.mono k2) r2 Q fun u H3 e3 r3 => q u H3 z M2 hR (S2.mono e3) ((k1.trans k2).trans (Kp.of e3)) r3
theorem wx_un {r : V → Hp → VK → Prop} (h : WpX K Pm F ta Γ M fun x M1 => ∃ z, UnD K F M1 r x z ∧ R z M1) : WpX K Pm F (tUn r ta) Γ M R := fun H0 σ H S Q q =>
  h H0 σ H S _ fun v H1 x M1 ⟨z, hz, hR⟩ S1 k1 r1 => hz v H1 S1.ms r1 Q fun u H3 e3 r3 => q u H3 z M1 hR (S1.mono e3) (k1.trans (Kp.of e3)) r3
theorem wa_nil (k : RA [] M) : WpA K Pm F tNil Γ M RA := fun H0 σ H S Q q => q [] H [] M k S (Same.refl _) .nil
theorem wa_cons {tr : TA} (h : WpX K Pm F te Γ M fun x M1 => WpA K Pm F tr Γ M1 fun xs M2 => RA (x :: xs) M2) : WpA K Pm F (tCons te tr) Γ M RA := fun H0 σ H S Q q =>
  h H0 σ H S _ fun v H1 x M1 h1 S1 k1 r1 => h1 H0 σ H1 S1 _ fun vs H2 xs M2 hR S2 k2 r2 => q _ H2 _ M2 hR S2 (k1.trans k2) (.cons (r1.mono k2) r2)
theorem wa_pure {tA : TA} {ds : List Dv} (h : EvA K F M tA Γ ds) (k : RA ds M) : WpA K Pm F tA Γ M RA := fun H0 σ H S Q q =>
  h σ H S.ms S.s Q fun v H' e r => q v H' ds M k (S.mono e) (Kp.of e) r
theorem wx_tup {tA : TA} (h : WpA K Pm F tA Γ M fun ds M' => ds.length ≤ 100000 ∧ R (.tup ds) M') : WpX K Pm F (tTupF tA) Γ M R := fun H0 σ H S Q q =>
  h H0 σ H S _ fun vs H1 ds M1 ⟨hl, hR⟩ S1 k1 r1 => ⟨sz_of (by rw [r1.len]; exact hl), fun p hp o z => q _ _ _ M1 hR (S1.mono (same_new hp)) (k1.trans (Kp.of (same_new hp))) (S1.ms.newT hp z r1)⟩
theorem wx_lst {tA : TA} (h : WpA K Pm F tA Γ M fun ds M' => ds.length ≤ 100000 ∧ R (.lst ds) M') : WpX K Pm F (tLst tA) Γ M R := fun H0 σ H S Q q =>
  h H0 σ H S _ fun vs H1 ds M1 ⟨hl, hR⟩ S1 k1 r1 => ⟨sz_of (by rw [r1.len]; exact hl), fun p hp => q _ _ _ M1 hR (S1.mono (same_new hp)) (k1.trans (Kp.of (same_new hp))) (S1.ms.newL hp r1)⟩
theorem wx_cb {r : List V → Hp → VK → Prop} {tA : TA} (h : WpA K Pm F tA Γ M fun ds M' => ∃ z, CaD K F M' r ds z ∧ R z M') : WpX K Pm F (tCB r tA) Γ M R := fun H0 σ H S Q q =>
  h H0 σ H S _ fun vs H1 ds M1 ⟨z, hz, hR⟩ S1 k1 r1 => hz vs H1 S1.ms r1 Q fun u H2 e2 r2 => q u H2 z M1 hR (S1.mono e2) (k1.trans (Kp.of e2)) r2
theorem wt_pure {b : Bool} (h : EvT K F M t Γ b) (k : RT b M) : WpT K Pm F t Γ M RT := fun H0 σ H S Q q => h σ H S.ms S.s Q fun H' e => q b H' M k (S.mono e) (Kp.of e)
theorem wt_cmp (h : WpX K Pm F te Γ M fun d M' => ∃ b, d = .bl b ∧ RT b M') : WpT K Pm F (tTest te) Γ M RT := fun H0 σ H S Q q => h H0 σ H S _ fun v H1 d M1 ⟨b, e, hR⟩ S1 k1 r1 => by
  subst e
  cases r1
  exact ⟨b, rfl, q b H1 M1 hR S1 k1⟩
theorem wt_val (h : WpX K Pm F te Γ M fun d M' => ∃ b, d = .bl b ∧ RT b M') : WpT K Pm F (tB te) Γ M RT := fun H0 σ H S Q q => h H0 σ H S _ fun v H1 d M1 ⟨b, e, hR⟩ S1 k1 r1 => by
  subst e
  cases r1
  exact ⟨b, rfl, q b H1 M1 hR S1 k1⟩
theorem wt_and (h : WpT K Pm F t Γ M fun a M1 => (a = true → WpT K Pm F u Γ M1 RT) ∧ (a = false → RT false M1)) : WpT K Pm F (tAnd t u) Γ M RT := fun H0 σ H S Q q => h H0 σ H S _ fun a H1 M1 ⟨h1, h2⟩ S1 k1 => by
  cases a with
  | true => exact iteT (h1 rfl H0 σ H1 S1 Q fun b H2 M2 r S2 k2 => q b H2 M2 r S2 (k1.trans k2))
  | false => exact iteF (q false H1 M1 (h2 rfl) S1 k1)
theorem wt_or (h : WpT K Pm F t Γ M fun a M1 => (a = false → WpT K Pm F u Γ M1 RT) ∧ (a = true → RT true M1)) : WpT K Pm F (tOr t u) Γ M RT := fun H0 σ H S Q q => h H0 σ H S _ fun a H1 M1 ⟨h1, h2⟩ S1 k1 => by
  cases a with
  | false => exact iteF (h1 rfl H0 σ H1 S1 Q fun b H2 M2 r S2 k2 => q b H2 M2 r S2 (k1.trans k2))
  | true => exact iteT (q true H1 M1 (h2 rfl) S1 k1)
theorem wt_not (h : WpT K Pm F t Γ M fun a M1 => RT (!a) M1) : WpT K Pm F (tNot t) Γ M RT := fun H0 σ H S Q q => h H0 σ H S _ fun a H1 M1 hR S1 k1 => q _ H1 M1 hR S1 k1
theorem wx_if (h : WpT K Pm F t Γ M fun b M1 => (b = true → WpX K Pm F ta Γ M1 R) ∧ (b = false → WpX K Pm F tb Γ M1 R)) : WpX K Pm F (tIf t ta tb) Γ M R := fun H0 σ H S Q q => h H0 σ H S _ fun b H1 M1 ⟨h1, h2⟩ S1 k1 => by
  cases b with
  | true => exact iteT (h1 rfl H0 σ H1 S1 Q fun v H2 d M2 r S2 k2 => q v H2 d M2 r S2 (k1.trans k2))
  | false => exact iteF (h2 rfl H0 σ H1 S1 Q fun v H2 d M2 r S2 k2 => q v H2 d M2 r S2 (k1.trans k2))

/-! ### calls -/
abbrev DS := List Dv → Mu → (Dv → Mu → Prop) → Prop
/-- a def's promise by its data: S tells, from the arguments and what is mutable in them, what it may be asked to reach; N: new mutable objects that it hands back -/
def spD (K : PySem.W.Frag) (n : Nat) (S : DS) : Sp := fun vs H Q _ => ∃ (F : List Addr) (M : Mu) (ds : List Dv) (R : Dv → Mu → Prop), vs.length = n ∧ Ms K F M H ∧ RpL K (hid (ads M ++ F) H) vs ds ∧ S ds M R ∧
  ∀ v H' d N M', R d (N ++ M') → ads M' = ads M → (∀ q ∈ N, H q.1 = none) → (∀ a o, a ∉ ads M → H a = some o → H' a = some o) → Ms K F (N ++ M') H' → Rp K (hid (ads (N ++ M') ++ F) H') v d → Q v H'
theorem spD_len {n : Nat} {S : DS} {vs : List V} {H : Hp} {Q : VK} {E : XK} (h : spD K n S vs H Q E) : vs.length = n := by
  obtain ⟨_, _, _, _, e, _⟩ := h
  exact e
/-- new mutable objects of a call join those of the caller -/
theorem Stt.join {N : Mu} {H0 H H' : Hp} {σ : L2.St} (S : Stt K Pm F M H0 H σ Γ) (e : Same H H') (hn : ∀ q ∈ N, H q.1 = none) (hm : Ms K (ads M ++ F) N H') : Stt K Pm F (N ++ M) H0 H' σ Γ ∧ Kp F M H (N ++ M) H' := by
  have hin : ∀ a, a ∈ ads (N ++ M) ++ F ↔ a ∈ ads N ++ (ads M ++ F) := fun a => by
    simp only [ads, List.map_append, List.append_assoc]
  have hh : ∀ h : Hp, hid (ads (N ++ M) ++ F) h = hid (ads N ++ (ads M ++ F)) h := fun h => by
    funext a
    unfold hid
    by_cases m : a ∈ ads (N ++ M) ++ F
    · rw [if_pos m, if_pos ((hin a).mp m)]
    · rw [if_neg m, if_neg fun z => m ((hin a).mpr z)]
  have hk : Same (hid (ads M ++ F) H) (hid (ads (N ++ M) ++ F) H') := fun a o q => by
    obtain ⟨n, z⟩ := hid_some q
    have : a ∉ ads (N ++ M) ++ F := fun m => by
      rcases List.mem_append.mp ((hin a).mp m) with m | m
      · obtain ⟨q', hq, e'⟩ := List.mem_map.mp m
        have := hn q' hq
        rw [e', z] at this; cases this
      · exact n m
    rw [hid_out this]
    exact e a o z
  refine ⟨⟨fun a o n q => e _ _ (S.fr a o n q), fun q hq => ?_, ⟨fun q hq => ?_, ?_, fun a ha => let ⟨o, z⟩ := S.ms.ff a ha; ⟨o, e _ _ z⟩, fun a ha hm' => ?_⟩, S.s.keep hk⟩, hk⟩
  · rcases List.mem_append.mp hq with z | z
    · by_cases hp : q.1 ∈ Pm
      · exact .inl hp
      · refine .inr ?_
        cases w : H0 q.1 with
        | none => rfl
        | some o =>
          have := S.fr _ o hp w
          rw [hn q z] at this; cases this
    · exact S.loc q z
  · rcases List.mem_append.mp hq with z | z
    · have := hm.ok q z
      exact this.keep (by rw [hh]; exact Same.refl _) fun o e => e
    · exact (S.ms.ok q z).keep hk fun o => e _ o
  · show (List.map _ (N ++ M)).Nodup
    rw [List.map_append]
    refine List.nodup_append.mpr ⟨hm.nd, S.ms.nd, fun a ha b hb e' => ?_⟩
    subst e'
    exact hm.ap a (List.mem_append_left _ hb) ha
  · have ha' := ha
    simp only [ads, List.map_append] at hm'
    rcases List.mem_append.mp hm' with z | z
    · exact hm.ap a (List.mem_append_right _ ha) z
    · exact S.ms.ap a ha z
/-- no mutable object is handed over -/
theorem wx_call0 {n : Nat} {S : DS} {tA : TA} {E : XK} (h : WpA K Pm F tA Γ M fun ds M' => ds.length = n ∧ S ds [] fun d N => R d (N ++ M')) : WpX K Pm F (tCall (spD K n S) [] E tA) Γ M R := fun H0 σ H S0 Q q =>
  h H0 σ H S0 _ fun vs H1 ds M1 ⟨hn, hs⟩ S1 k1 r1 => by
    refine ⟨ads M1 ++ F, [], ds, _, ?_, ⟨fun q hq => (nomatch hq), List.nodup_nil, fun a ha => ?_, fun a _ hm => (nomatch hm)⟩, ?_, hs, fun v H2 d N M2 hR ha hn hf hm r2 => ?_⟩
    · rw [List.append_nil, r1.len]; exact hn
    · rcases List.mem_append.mp ha with z | z
      · obtain ⟨q', hq, e⟩ := List.mem_map.mp z
        rw [← e]
        exact (S1.ms.ok q' hq).there
      · exact S1.ms.ff a z
    · rw [List.append_nil]; exact r1
    · have e : Same H1 H2 := fun a o => hf a o (fun z => nomatch z)
      have e0 : M2 = [] := List.map_eq_nil_iff.mp ha
      subst e0
      rw [List.append_nil] at hR hm r2
      obtain ⟨S2, k2⟩ := S1.join e hn hm
      refine q v H2 d _ hR S2 (k1.trans k2) ?_
      have : ads (N ++ M1) ++ F = ads N ++ (ads M1 ++ F) := by simp only [ads, List.map_append, List.append_assoc]
      rw [this]
      exact r2
end
end Dw
namespace Dw
open PySem L2

theorem hid_congr {l l' : List Addr} {H : Hp} (h : ∀ a, a ∈ l ↔ a ∈ l') : hid l H = hid l' H := by
  funext a
  unfold hid
  by_cases m : a ∈ l
  · rw [if_pos m, if_pos ((h a).mp m)]
  · rw [if_neg m, if_neg fun z => m ((h a).mpr z)]
theorem mem_erase {M : Mu} {i : Nat} {q : Addr × Mv} (h : M[i]? = some q) (a : Addr) : a ∈ ads M ↔ a = q.1 ∨ a ∈ ads (M.eraseIdx i) := by
  induction M generalizing i with
  | nil => simp at h
  | cons x M ih =>
    cases i with
    | zero =>
      rw [List.getElem?_cons_zero] at h
      cases h
      simp [ads]
    | succ i =>
      rw [List.getElem?_cons_succ] at h
      have := ih h
      simp only [ads, List.map_cons, List.mem_cons, List.eraseIdx_cons_succ] at this ⊢
      rw [this]
      constructor
      · rintro (h | h | h)
        · exact .inr (.inl h)
        · exact .inl h
        · exact .inr (.inr h)
      · rintro (h | h | h)
        · exact .inr (.inl h)
        · exact .inl h
        · exact .inr (.inr h)
theorem erase_sub {M : Mu} {i : Nat} {q : Addr × Mv} (h : q ∈ M.eraseIdx i) : q ∈ M := List.mem_of_mem_eraseIdx h
theorem nd_erase {M : Mu} {i : Nat} {q : Addr × Mv} (h : M[i]? = some q) (nd : (ads M).Nodup) : q.1 ∉ ads (M.eraseIdx i) ∧ (ads (M.eraseIdx i)).Nodup := by
  induction M generalizing i with
  | nil => simp at h
  | cons x M ih =>
    have nd' := List.nodup_cons.mp nd
    cases i with
    | zero =>
      rw [List.getElem?_cons_zero] at h
      cases h
      exact nd'
    | succ i =>
      rw [List.getElem?_cons_succ] at h
      obtain ⟨a, b⟩ := ih h nd'.2
      refine ⟨fun z => ?_, ?_⟩
      · rcases List.mem_cons.mp z with z | z
        · have z' : q.1 = x.1 := z
          have : x.1 ∈ ads M := by
            rw [← z']
            exact List.mem_map.mpr ⟨q, List.mem_of_getElem? h, rfl⟩
          exact nd'.1 this
        · exact a z
      · show (ads (x :: M.eraseIdx i)).Nodup
        refine List.nodup_cons.mpr ⟨fun z => nd'.1 ?_, b⟩
        exact (mem_erase h x.1).mpr (.inr z)
theorem ads_set {M : Mu} {i : Nat} {p : Addr} {m m' : Mv} (h : M[i]? = some (p, m)) : ads (M.set i (p, m')) = ads M := by
  induction M generalizing i with
  | nil => rfl
  | cons x M ih =>
    cases i with
    | zero =>
      rw [List.getElem?_cons_zero] at h
      cases h
      rfl
    | succ i =>
      rw [List.getElem?_cons_succ] at h
      have := ih h
      simp only [ads, List.set_cons_succ, List.map_cons] at this ⊢
      rw [this]
theorem mem_set {M : Mu} {i : Nat} {p : Addr} {m m' : Mv} (h : M[i]? = some (p, m)) {q : Addr × Mv} (hq : q ∈ M.set i (p, m')) : q = (p, m') ∨ q ∈ M.eraseIdx i := by
  induction M generalizing i with
  | nil => simp at hq
  | cons x M ih =>
    cases i with
    | zero =>
      rw [List.set_cons_zero] at hq
      rcases List.mem_cons.mp hq with z | z
      · exact .inl z
      · exact .inr z
    | succ i =>
      rw [List.getElem?_cons_succ] at h
      rw [List.set_cons_succ] at hq
      rcases List.mem_cons.mp hq with z | z
      · exact .inr (List.mem_cons.mpr (.inl z))
      · rcases ih h z with z | z
        · exact .inl z
        · exact .inr (List.mem_cons.mpr (.inr z))
section
variable {K : PySem.W.Frag} {Pm F : List Addr} {M : Mu} {Γ : Ga} {ta tb te : TE} {x y z d : Dv} {t u : TT} {R : Dv → Mu → Prop} {P : Po} {H0 H H' : Hp} {σ : L2.St}
/-- one mutable object has been changed, all else of what is tracked stands -/
theorem Stt.upd1 {i : Nat} {p : Addr} {m m' : Mv} (S : Stt K Pm F M H0 H σ Γ) (hi : M[i]? = some (p, m)) (hf : ∀ a o, a ≠ p → H a = some o → H' a = some o) (hm : MvOk K (ads M ++ F) H' p m') :
    Stt K Pm F (M.set i (p, m')) H0 H' σ Γ ∧ Kp F M H (M.set i (p, m')) H' := by
  have hp : p ∈ ads M := List.mem_map.mpr ⟨(p, m), List.mem_of_getElem? hi, rfl⟩
  have hk : Same (hid (ads M ++ F) H) (hid (ads M ++ F) H') := fun a o e => by
    obtain ⟨n, q⟩ := hid_some e
    rw [hid_out n]
    exact hf a o (fun z => n (by rw [z]; exact List.mem_append_left _ hp)) q
  have ea : ads (M.set i (p, m')) = ads M := ads_set hi
  refine ⟨⟨fun a o n q => ?_, fun q hq => ?_, ⟨fun q hq => ?_, by rw [ea]; exact S.ms.nd, fun a ha => ?_, by rw [ea]; exact S.ms.ap⟩, ?_⟩, ?_⟩
  · refine hf a o (fun z => ?_) (S.fr a o n q)
    rcases S.loc (p, m) (List.mem_of_getElem? hi) with w | w
    · exact n (by rw [z]; exact w)
    · rw [z, w] at q; cases q
  · rcases mem_set hi hq with e | e
    · rw [e]; exact S.loc (p, m) (List.mem_of_getElem? hi)
    · exact S.loc q (erase_sub e)
  · rw [ea]
    rcases mem_set hi hq with e | e
    · rw [e]; exact hm
    · refine (S.ms.ok q (erase_sub e)).keep hk fun o => hf _ o fun z => ?_
      exact (nd_erase hi S.ms.nd).1 (List.mem_map.mpr ⟨q, e, z⟩)
  · obtain ⟨o, q⟩ := S.ms.ff a ha
    exact ⟨o, hf a o (fun z => S.ms.ap a ha (by rw [z]; exact hp)) q⟩
  · rw [ea]; exact S.s.keep hk
  · show Same _ (hid (ads (M.set i (p, m')) ++ F) H')
    rw [ea]; exact hk
/-- the i-th mutable object is handed over, said of values that are there already -/
theorem Stt.call1 {n : Nat} {Sp : DS} {E : XK} {Q : VK} {vs : List V} {ds : List Dv} {i : Nat} {p : Addr} {m : Mv} {M1 : Mu} {H1 : Hp} (S1 : Stt K Pm F M1 H0 H1 σ Γ) (r1 : RpL K (hid (ads M1 ++ F) H1) vs ds) (hn : ds.length = n) (hi : M1[i]? = some (p, m))
    (hs : Sp ds [(p, m)] fun d M2 => ∃ N m', M2 = N ++ [(p, m')] ∧ R d (N ++ M1.set i (p, m'))) (q : ∀ v H' d M', R d M' → Stt K Pm F M' H0 H' σ Γ → Kp F M1 H1 M' H' → Rp K (hid (ads M' ++ F) H') v d → Q v H') : spD K n Sp vs H1 Q E := by
  have hmem : ∀ a, a ∈ ads [(p, m)] ++ (ads (M1.eraseIdx i) ++ F) ↔ a ∈ ads M1 ++ F := fun a => by
    rw [List.mem_append, List.mem_append, List.mem_append, mem_erase hi a]
    simp only [ads, List.map_cons, List.map_nil, List.mem_singleton]
    constructor
    · rintro (h | h | h)
      · exact .inl (.inl h)
      · exact .inl (.inr h)
      · exact .inr h
    · rintro ((h | h) | h)
      · exact .inl h
      · exact .inr (.inl h)
      · exact .inr (.inr h)
  have hp : p ∈ ads M1 := List.mem_map.mpr ⟨(p, m), List.mem_of_getElem? hi, rfl⟩
  refine ⟨ads (M1.eraseIdx i) ++ F, [(p, m)], ds, _, ?_, ⟨fun q hq => ?_, by simp [ads], fun a ha => ?_, fun a ha hm => ?_⟩, ?_, hs, fun v H2 d N M2 hR ha hnew hf hm r2 => ?_⟩
  · rw [r1.len]; exact hn
  · rw [List.mem_singleton] at hq
    rw [hq]
    show MvOk K _ H1 p m
    have w := S1.ms.ok (p, m) (List.mem_of_getElem? hi)
    refine w.keep ?_ fun o e => e
    rw [hid_congr hmem]
    exact Same.refl _
  · rcases List.mem_append.mp ha with z | z
    · obtain ⟨q', hq, e⟩ := List.mem_map.mp z
      rw [← e]
      exact (S1.ms.ok q' (erase_sub hq)).there
    · exact S1.ms.ff a z
  · have e : a = p := by simpa [ads] using hm
    rcases List.mem_append.mp ha with z | z
    · exact (nd_erase hi S1.ms.nd).1 (by rw [← e]; exact z)
    · exact S1.ms.ap a z (by rw [e]; exact hp)
  · rw [hid_congr hmem]; exact r1
  · obtain ⟨N', m', e1, hR⟩ := hR
    have hlen : M2.length = 1 := by
      have := congrArg List.length ha
      simpa [ads] using this
    obtain ⟨rfl, e2⟩ : N = N' ∧ M2 = [(p, m')] := by
      have := List.append_inj' e1 (by rw [hlen]; rfl)
      exact this
    subst e2
    have hm0 : MvOk K (ads (N ++ [(p, m')]) ++ (ads (M1.eraseIdx i) ++ F)) H2 p m' := hm.ok (p, m') (List.mem_append_right _ (List.mem_singleton.mpr rfl))
    have hh : ∀ a, a ∈ ads (N ++ [(p, m')]) ++ (ads (M1.eraseIdx i) ++ F) ↔ a ∈ ads N ++ (ads M1 ++ F) := fun a => by
      have := hmem a
      simp only [ads, List.map_append, List.map_cons, List.map_nil, List.mem_append, List.mem_singleton] at this ⊢
      constructor
      · rintro ((h | h) | h | h)
        · exact .inl h
        · exact .inr (this.mp (.inl h))
        · exact .inr (this.mp (.inr (.inl h)))
        · exact .inr (.inr h)
      · rintro (h | h)
        · exact .inl (.inl h)
        · rcases this.mpr h with z | z
          · exact .inl (.inr z)
          · exact .inr z
    -- the callers' own objects: one changed, the new ones beside them
    have hp0 : ∀ q ∈ N, q.1 ∉ ads M1 ++ F := fun q hq z => S1.ms.fresh (hnew q hq) z
    have hk : Same (hid (ads M1 ++ F) H1) (hid (ads N ++ (ads M1 ++ F)) H2) := fun a o z => by
      obtain ⟨n, w⟩ := hid_some z
      have hne : a ≠ p := fun y => n (by rw [y]; exact List.mem_append_left _ hp)
      have : a ∉ ads N ++ (ads M1 ++ F) := fun y => by
        rcases List.mem_append.mp y with y | y
        · obtain ⟨q', hq, e⟩ := List.mem_map.mp y
          have := hnew q' hq
          rw [e, w] at this; cases this
        · exact n y
      rw [hid_out this]
      exact hf a o (fun y => hne (by simpa [ads] using y)) w
    have ea : ads (M1.set i (p, m')) = ads M1 := ads_set hi
    have eall : ads (N ++ M1.set i (p, m')) ++ F = ads N ++ (ads M1 ++ F) := by
      show List.map _ (N ++ M1.set i (p, m')) ++ F = _
      rw [List.map_append, List.append_assoc]
      exact congrArg (fun z => ads N ++ (z ++ F)) ea
    have hf' : ∀ a o, a ≠ p → H1 a = some o → H2 a = some o := fun a o ne => hf a o fun z => ne (by simpa [ads] using z)
    have S2 : Stt K Pm F (N ++ M1.set i (p, m')) H0 H2 σ Γ := by
      refine ⟨fun a o n z => ?_, fun q hq => ?_, ⟨fun q hq => ?_, ?_, fun a ha => ?_, fun a ha hm' => ?_⟩, ?_⟩
      · refine hf' a o (fun y => ?_) (S1.fr a o n z)
        rcases S1.loc (p, m) (List.mem_of_getElem? hi) with w | w
        · exact n (by rw [y]; exact w)
        · rw [y, w] at z; cases z
      · rcases List.mem_append.mp hq with z | z
        · by_cases hpm : q.1 ∈ Pm
          · exact .inl hpm
          · refine .inr ?_
            cases w : H0 q.1 with
            | none => rfl
            | some o =>
              have := S1.fr _ o hpm w
              rw [hnew q z] at this; cases this
        · rcases mem_set hi z with e | e
          · rw [e]; exact S1.loc (p, m) (List.mem_of_getElem? hi)
          · exact S1.loc q (erase_sub e)
      · rw [eall]
        rcases List.mem_append.mp hq with z | z
        · have := hm.ok q (List.mem_append_left _ z)
          exact this.keep (by rw [hid_congr hh]; exact Same.refl _) fun o e => e
        · rcases mem_set hi z with e | e
          · rw [e]
            exact hm0.keep (by rw [hid_congr hh]; exact Same.refl _) fun o e => e
          · refine (S1.ms.ok q (erase_sub e)).keep hk fun o => hf' _ o fun y => ?_
            exact (nd_erase hi S1.ms.nd).1 (List.mem_map.mpr ⟨q, e, y⟩)
      · show (List.map _ (N ++ M1.set i (p, m'))).Nodup
        rw [List.map_append]
        have ndN : (ads N).Nodup := (List.nodup_append.mp (by have := hm.nd; rwa [show ads (N ++ [(p, m')]) = ads N ++ ads [(p, m')] from List.map_append ..] at this)).1
        refine List.nodup_append.mpr ⟨ndN, by have := S1.ms.nd; rwa [← ea] at this, fun a ha b hb e' => ?_⟩
        subst e'
        obtain ⟨q', hq, e⟩ := List.mem_map.mp ha
        have hb' : a ∈ ads M1 := by rw [← ea]; exact hb
        exact hp0 q' hq (by rw [e]; exact List.mem_append_left _ hb')
      · obtain ⟨o, z⟩ := S1.ms.ff a ha
        exact ⟨o, hf' a o (fun y => S1.ms.ap a ha (by rw [y]; exact hp)) z⟩
      · have hm2 : a ∈ ads N ++ ads M1 := by
          have : ads (N ++ M1.set i (p, m')) = ads N ++ ads M1 := by
            show List.map _ (N ++ M1.set i (p, m')) = _
            rw [List.map_append]
            exact congrArg (fun z => ads N ++ z) ea
          rw [← this]; exact hm'
        rcases List.mem_append.mp hm2 with z | z
        · obtain ⟨q', hq, e⟩ := List.mem_map.mp z
          exact hp0 q' hq (by rw [e]; exact List.mem_append_right _ ha)
        · exact S1.ms.ap a ha z
      · rw [eall]
        exact S1.s.keep hk
    refine q v H2 d _ hR S2 ?_ ?_
    · show Same _ (hid (ads (N ++ M1.set i (p, m')) ++ F) H2)
      rw [eall]; exact hk
    · rw [eall, ← hid_congr hh]
      exact r2

/-- the i-th mutable object is handed over -/
theorem wx_call1 {n : Nat} {Sp : DS} {tA : TA} {E : XK} (h : WpA K Pm F tA Γ M fun ds M' => ds.length = n ∧ ∃ (i : Nat) (p : Addr) (m : Mv), M'[i]? = some (p, m) ∧ Sp ds [(p, m)] fun d M2 => ∃ N m', M2 = N ++ [(p, m')] ∧ R d (N ++ M'.set i (p, m'))) :
    WpX K Pm F (tCall (spD K n Sp) [] E tA) Γ M R := fun H0 σ H S0 Q q =>
  h H0 σ H S0 _ fun vs H1 ds M1 ⟨hn, i, p, m, hi, hs⟩ S1 k1 r1 => by
    rw [List.append_nil]
    exact S1.call1 r1 hn hi hs fun v H' d M' hR S' k' r' => q v H' d M' hR S' (k1.trans k') r'

/-! ### statements -/
variable {ts tu : TS}
theorem ws_imp {P' : Po} (h : WpS K Pm F ts Γ M P') (hn : ∀ Γ' M', P'.n Γ' M' → P.n Γ' M') (hr : ∀ d M', P'.r d M' → P.r d M') (hb : ∀ Γ' M', P'.b Γ' M' → P.b Γ' M') (hc : ∀ Γ' M', P'.c Γ' M' → P.c Γ' M') : WpS K Pm F ts Γ M P :=
  fun H0 σ H D S n r b c => h H0 σ H D S (fun σ' H' Γ' M' q => n σ' H' Γ' M' (hn _ _ q)) (fun v σ' H' Γ' d M' q => r v σ' H' Γ' d M' (hr _ _ q)) (fun σ' H' Γ' M' q => b σ' H' Γ' M' (hb _ _ q)) (fun σ' H' Γ' M' q => c σ' H' Γ' M' (hc _ _ q))
theorem ws_seq (h : WpS K Pm F ts Γ M { P with n := fun Γ' M' => WpS K Pm F tu Γ' M' P }) : WpS K Pm F (tSeq ts tu) Γ M P := fun H0 σ H D S n r b c =>
  h H0 σ H { D with nx := tu D } S (fun σ' H' Γ' M' q S' k' => q H0 σ' H' D S' (fun σ2 H2 Γ2 M2 q2 S2 k2 => n σ2 H2 Γ2 M2 q2 S2 (k'.trans k2)) (fun v σ2 H2 Γ2 d M2 q2 S2 k2 => r v σ2 H2 Γ2 d M2 q2 S2 (k'.trans k2))
    (fun σ2 H2 Γ2 M2 q2 S2 k2 => b σ2 H2 Γ2 M2 q2 S2 (k'.trans k2)) (fun σ2 H2 Γ2 M2 q2 S2 k2 => c σ2 H2 Γ2 M2 q2 S2 (k'.trans k2))) r b c
theorem ws_next (k : P.n Γ M) : WpS K Pm F tNext Γ M P := fun H0 σ H D S n r b c => n σ H Γ M k S (Same.refl _)
theorem ws_brk (k : P.b Γ M) : WpS K Pm F tBreak Γ M P := fun H0 σ H D S n r b c => b σ H Γ M k S (Same.refl _)
theorem ws_cont (k : P.c Γ M) : WpS K Pm F tCont Γ M P := fun H0 σ H D S n r b c => c σ H Γ M k S (Same.refl _)
theorem ws_asg {i : Nat} (h : WpX K Pm F te Γ M fun d M' => P.n (Γ.set i (some d)) M') : WpS K Pm F (tAsg te (gName i)) Γ M P := fun H0 σ H D S n r b c =>
  h H0 σ H S _ fun v H1 d M1 hR S1 k1 r1 => n _ H1 _ M1 hR (S1.set i r1) k1
theorem ws_ret (h : WpX K Pm F te Γ M P.r) : WpS K Pm F (tRet te) Γ M P := fun H0 σ H D S n r b c =>
  h H0 σ H S _ fun v H1 d M1 hR S1 k1 r1 => r v σ H1 Γ d M1 hR S1 k1 r1
theorem ws_retN (k : P.r .non M) : WpS K Pm F tRetN Γ M P := fun H0 σ H D S n r b c => r .non σ H Γ .non M k S (Same.refl _) .non
theorem ws_drop (h : WpX K Pm F te Γ M fun _ M' => P.n Γ M') : WpS K Pm F (tDrop te) Γ M P := fun H0 σ H D S n r b c =>
  h H0 σ H S _ fun v H1 d M1 hR S1 k1 r1 => n σ H1 Γ M1 hR S1 k1
theorem ws_if (h : WpT K Pm F t Γ M fun b M1 => (b = true → WpS K Pm F ts Γ M1 P) ∧ (b = false → WpS K Pm F tu Γ M1 P)) : WpS K Pm F (tIfS t ts tu) Γ M P := fun H0 σ H D S n r b c =>
  h H0 σ H S _ fun k H1 M1 ⟨h1, h2⟩ S1 k1 => by
    cases k with
    | true => exact iteT (h1 rfl H0 σ H1 D S1 (fun σ2 H2 Γ2 M2 q2 S2 k2 => n σ2 H2 Γ2 M2 q2 S2 (k1.trans k2)) (fun v σ2 H2 Γ2 d M2 q2 S2 k2 => r v σ2 H2 Γ2 d M2 q2 S2 (k1.trans k2))
        (fun σ2 H2 Γ2 M2 q2 S2 k2 => b σ2 H2 Γ2 M2 q2 S2 (k1.trans k2)) (fun σ2 H2 Γ2 M2 q2 S2 k2 => c σ2 H2 Γ2 M2 q2 S2 (k1.trans k2)))
    | false => exact iteF (h2 rfl H0 σ H1 D S1 (fun σ2 H2 Γ2 M2 q2 S2 k2 => n σ2 H2 Γ2 M2 q2 S2 (k1.trans k2)) (fun v σ2 H2 Γ2 d M2 q2 S2 k2 => r v σ2 H2 Γ2 d M2 q2 S2 (k1.trans k2))
        (fun σ2 H2 Γ2 M2 q2 S2 k2 => b σ2 H2 Γ2 M2 q2 S2 (k1.trans k2)) (fun σ2 H2 Γ2 M2 q2 S2 k2 => c σ2 H2 Γ2 M2 q2 S2 (k1.trans k2)))
theorem ws_aug {i : Nat} {f : Int → Int → Int} {a : Int} (hx : Γ[i]? = some (some (.int a))) (h : WpX K Pm F te Γ M fun d M' => ∃ b, d = .int b ∧ P.n (Γ.set i (some (.int (f a b)))) M') : WpS K Pm F (tAug i te (ipI f)) Γ M P := fun H0 σ H D S n r b c => by
  obtain ⟨v, e, r0⟩ := S.s.sl i _ hx
  cases r0
  refine ⟨.int a, e, h H0 σ H S _ fun v H1 d M1 ⟨b', e', hR⟩ S1 k1 r1 => ?_⟩
  subst e'
  cases r1
  exact ⟨a, b', rfl, rfl, n _ H1 _ M1 hR (S1.set i (.int _)) k1⟩

/-! a target by data -/
def TgD (K : PySem.W.Frag) (g : TG) (d : Dv) (Γ Γ' : Ga) : Prop := ∀ (l : List Addr) (σ : L2.St) (H : Hp) (v : V), Sl K l H σ Γ → Rp K (hid l H) v d → ∀ Q : L2.St → Hp → Prop, (∀ σ', Sl K l H σ' Γ' → Q σ' H) → g v σ H Q
def TgsD (K : PySem.W.Frag) (g : TGs) (ds : List Dv) (Γ Γ' : Ga) : Prop := ∀ (l : List Addr) (σ : L2.St) (H : Hp) (vs : List V), Sl K l H σ Γ → RpL K (hid l H) vs ds → ∀ Q : L2.St → Hp → Prop, (∀ σ', Sl K l H σ' Γ' → Q σ' H) → g vs σ H Q
theorem Sl.set {l : List Addr} {v : V} {d : Dv} (h : Sl K l H σ Γ) (i : Nat) (r : Rp K (hid l H) v d) : Sl K l H (σ.set i (some v)) (Γ.set i (some d)) := by
  refine ⟨by rw [List.length_set, List.length_set]; exact h.len, fun j e q => ?_⟩
  by_cases hj : i = j
  · subst hj
    by_cases hl : i < Γ.length
    · rw [List.getElem?_set_self hl] at q
      cases q
      exact ⟨v, by rw [List.getElem?_set_self (by rw [← h.len]; exact hl)], r⟩
    · rw [List.getElem?_eq_none (by rw [List.length_set]; omega)] at q
      cases q
  · rw [List.getElem?_set_ne hj] at q
    obtain ⟨u, a, b⟩ := h.sl j e q
    exact ⟨u, by rw [List.getElem?_set_ne hj]; exact a, b⟩
theorem tg_name {i : Nat} {Γ : Ga} : TgD K (gName i) d Γ (Γ.set i (some d)) := fun l σ H v s r Q q => q _ (s.set i r)
theorem tgs_nil {Γ : Ga} : TgsD K gNil [] Γ Γ := fun l σ H vs s r Q q => by
  cases r
  exact ⟨rfl, q σ s⟩
theorem tgs_cons {g : TG} {gs : TGs} {ds : List Dv} {Γ Γ' Γ'' : Ga} (h1 : TgD K g d Γ Γ') (h2 : TgsD K gs ds Γ' Γ'') : TgsD K (gCons g gs) (d :: ds) Γ Γ'' := fun l σ H vs s r Q q => by
  cases r with
  | cons r1 r2 => exact ⟨_, _, rfl, h1 l σ H _ s r1 _ fun σ' s' => h2 l σ' H _ s' r2 Q q⟩
theorem sqT_hid {l : List Addr} {a : Addr} {xs : List V} (h : SqT K (hid l H) a xs) : SqT K H a xs := sqT_mono (hid_sub l H) h
theorem tg_tup {gs : TGs} {ds : List Dv} {Γ Γ' : Ga} {n : Nat} (h : TgsD K gs ds Γ Γ') (hn : ds.length = n) : TgD K (gTup K n gs) (.tup ds) Γ Γ' := fun l σ H v s r Q q => by
  cases r with
  | tup h1 r1 => exact ⟨_, _, rfl, sqT_hid h1.1, by rw [r1.len]; exact hn, h l σ H _ s r1 Q q⟩
theorem tg_stp {gs : TGs} {ds : List Dv} {Γ Γ' : Ga} {n : Nat} (h : TgsD K gs ds Γ Γ') (hn : ds.length = n) : TgD K (gTup K n gs) (.stp ds) Γ Γ' := fun l σ H v s r Q q => by
  cases r with
  | stp h1 r1 => exact ⟨_, _, rfl, sqT_hid h1, by rw [r1.len]; exact hn, h l σ H _ s r1 Q q⟩
theorem ws_asgG {g : TG} (h : WpX K Pm F te Γ M fun d M' => ∃ Γ', TgD K g d Γ Γ' ∧ P.n Γ' M') : WpS K Pm F (tAsg te g) Γ M P := fun H0 σ H D S n r b c =>
  h H0 σ H S _ fun v H1 d M1 ⟨Γ', hg, hR⟩ S1 k1 r1 => hg _ σ H1 v S1.s r1 _ fun σ' s' => n σ' H1 Γ' M1 hR ⟨S1.fr, S1.loc, S1.ms, s'⟩ k1
theorem ws_par {i j : Nat} {tA : TA} (h : WpA K Pm F tA Γ M fun ds M' => ∃ d e, ds = [d, e] ∧ P.n ((Γ.set i (some d)).set j (some e)) M') : WpS K Pm F (tPar i j tA) Γ M P := fun H0 σ H D S n r b c =>
  h H0 σ H S _ fun vs H1 ds M1 ⟨d, e, he, hR⟩ S1 k1 r1 => by
    subst he
    cases r1 with
    | cons r1 r2 =>
      cases r2 with
      | cons r2 r3 =>
        cases r3
        exact ⟨_, _, rfl, n _ H1 _ M1 hR ((S1.set i r1).set j r2) k1⟩

/-! ### a local list that will be changed -/
/-- te makes a new list -/
def EvN (K : PySem.W.Frag) (F : List Addr) (M : Mu) (te : TE) (Γ : Ga) (ds : List Dv) : Prop :=
  ∀ σ H, Ms K F M H → Sl K (ads M ++ F) H σ Γ → ∀ Q : VK, (∀ p H' xs, H p = none → Same H H' → H' p = some (.lst xs) → RpL K (hid (p :: (ads M ++ F)) H') xs ds → Q (.ref p) H') → te σ H Q
theorem hid_new {l : List Addr} {p : Addr} {o : HO} (hp : H p = none) : Same (hid l H) (hid (p :: l) (upd H p o)) := fun a u q => by
  obtain ⟨n, z⟩ := hid_some q
  have ne : a ≠ p := ne_of_none z hp
  rw [hid_out (fun m => (List.mem_cons.mp m).elim ne n), upd_ne ne]
  exact z
theorem none_back {p : Addr} (e : Same H H') (hp : H' p = none) : H p = none := by
  cases z : H p with
  | none => rfl
  | some o => rw [e p o z] at hp; cases hp
theorem en_lst {tA : TA} {ds : List Dv} (h : EvA K F M tA Γ ds) (hl : ds.length ≤ 100000) : EvN K F M (tLst tA) Γ ds := fun σ H m s Q q =>
  h σ H m s _ fun vs H1 e1 r1 => ⟨sz_of (by rw [r1.len]; exact hl), fun p hp => q p _ vs (none_back e1 hp) (e1.trans (same_new hp)) upd_same (r1.mono (hid_new hp))⟩
theorem Stt.newM {p : Addr} {xs : List V} {ds : List Dv} (S : Stt K Pm F M H0 H σ Γ) (hp : H p = none) (e : Same H H') (h1 : H' p = some (.lst xs)) (r : RpL K (hid (p :: (ads M ++ F)) H') xs ds) :
    Stt K Pm F ((p, .lst ds) :: M) H0 H' σ Γ ∧ Kp F M H ((p, .lst ds) :: M) H' := by
  have hn := S.ms.fresh hp
  have hk : Same (hid (ads M ++ F) H) (hid (ads ((p, Mv.lst ds) :: M) ++ F) H') := fun a o q => by
    obtain ⟨n, z⟩ := hid_some q
    have ne : a ≠ p := ne_of_none z hp
    have : a ∉ ads ((p, Mv.lst ds) :: M) ++ F := fun m => (List.mem_cons.mp m).elim ne n
    rw [hid_out this]
    exact e a o z
  refine ⟨⟨fun a o n q => e _ _ (S.fr a o n q), fun q hq => ?_, ⟨fun q hq => ?_, ?_, fun a ha => let ⟨o, z⟩ := S.ms.ff a ha; ⟨o, e _ _ z⟩, fun a ha hm => ?_⟩, S.s.keep hk⟩, hk⟩
  · rcases List.mem_cons.mp hq with z | z
    · by_cases hpm : p ∈ Pm
      · exact .inl (by rw [z]; exact hpm)
      · refine .inr ?_
        rw [z]
        cases w : H0 p with
        | none => rfl
        | some o => rw [S.fr p o hpm w] at hp; cases hp
    · exact S.loc q z
  · rcases List.mem_cons.mp hq with z | z
    · rw [z]; exact ⟨xs, h1, r⟩
    · exact (S.ms.ok q z).keep hk fun o => e _ o
  · exact List.nodup_cons.mpr ⟨fun m => hn (List.mem_append_left _ m), S.ms.nd⟩
  · rcases List.mem_cons.mp hm with z | z
    · exact hn (List.mem_append_right _ (by have z' : a = p := z; rw [← z']; exact ha))
    · exact S.ms.ap a ha z
theorem ws_new {i : Nat} {ds : List Dv} (h : EvN K F M te Γ ds) (k : ∀ p, p ∉ ads M ++ F → P.n (Γ.set i (some (.adr p))) ((p, .lst ds) :: M)) : WpS K Pm F (tAsg te (gName i)) Γ M P := fun H0 σ H D S n r b c =>
  h σ H S.ms S.s _ fun p H1 xs hp e h1 r1 => by
    obtain ⟨S1, k1⟩ := S.newM hp e h1 r1
    exact n _ H1 _ _ (k p (S.ms.fresh hp)) (S1.set i (.adr p)) k1
/-- a mutable object is changed no more: it becomes data -/
theorem Stt.frz {p : Addr} {ds : List Dv} (S : Stt K Pm F ((p, .lst ds) :: M) H0 H σ Γ) (hpm : p ∉ Pm) : Stt K Pm F M H0 H σ Γ ∧ Kp F ((p, .lst ds) :: M) H M H ∧ Rp K (hid (ads M ++ F) H) (.ref p) (.lst ds) := by
  have hk : Same (hid (ads ((p, Mv.lst ds) :: M) ++ F) H) (hid (ads M ++ F) H) := fun a o q => by
    obtain ⟨n, z⟩ := hid_some q
    have n' : a ∉ ads M ++ F := fun m => n (List.mem_cons_of_mem _ m)
    rw [hid_out n']
    exact z
  have nd := List.nodup_cons.mp S.ms.nd
  have hp : p ∉ ads M ++ F := fun m => by
    rcases List.mem_append.mp m with m | m
    · exact nd.1 m
    · exact S.ms.ap p m (List.mem_cons_self ..)
  refine ⟨⟨S.fr, fun q hq => S.loc q (List.mem_cons_of_mem _ hq), ⟨fun q hq => (S.ms.ok q (List.mem_cons_of_mem _ hq)).keep hk fun o e => e, nd.2, S.ms.ff, fun a ha hm => S.ms.ap a ha (List.mem_cons_of_mem _ hm)⟩, S.s.keep hk⟩, hk, ?_⟩
  obtain ⟨xs, h1, r⟩ := S.ms.ok _ (List.mem_cons_self ..)
  exact .lst (by rw [hid_out hp]; exact h1) (r.mono hk)
/-- ahead of a statement: the list in slot i is changed no more -/
theorem ws_frz {p : Addr} {ds : List Dv} (i : Nat) (hi : Γ[i]? = some (some (.adr p))) (hpm : p ∉ Pm) (h : WpS K Pm F ts (Γ.set i (some (.lst ds))) M P) : WpS K Pm F ts Γ ((p, .lst ds) :: M) P := fun H0 σ H D S n r b c => by
  obtain ⟨S1, k1, rp⟩ := S.frz hpm
  obtain ⟨v, e, rv⟩ := S.s.sl i _ hi
  cases rv
  have S2 := S1.set i rp
  have es : σ.set i (some (V.ref p)) = σ := by
    apply List.ext_getElem?
    intro j
    by_cases hj : i = j
    · subst hj
      rw [List.getElem?_set_self (List.getElem?_eq_some_iff.mp e).1, e]
    · rw [List.getElem?_set_ne hj]
  rw [es] at S2
  exact h H0 σ H D S2 (fun σ2 H2 Γ2 M2 q2 S2 k2 => n σ2 H2 Γ2 M2 q2 S2 (k1.trans k2)) (fun v σ2 H2 Γ2 d M2 q2 S2 k2 => r v σ2 H2 Γ2 d M2 q2 S2 (k1.trans k2))
    (fun σ2 H2 Γ2 M2 q2 S2 k2 => b σ2 H2 Γ2 M2 q2 S2 (k1.trans k2)) (fun σ2 H2 Γ2 M2 q2 S2 k2 => c σ2 H2 Γ2 M2 q2 S2 (k1.trans k2))
/-- behind an expression -/
theorem wx_frz (h : WpX K Pm F te Γ M fun d M' => ∃ p ds M1, d = .adr p ∧ M' = (p, .lst ds) :: M1 ∧ p ∉ Pm ∧ R (.lst ds) M1) : WpX K Pm F te Γ M R := fun H0 σ H S Q q =>
  h H0 σ H S _ fun v H1 d M1 ⟨p, ds, M2, e1, e2, hpm, hR⟩ S1 k1 r1 => by
    subst e1
    subst e2
    cases r1
    obtain ⟨S2, k2, rp⟩ := S1.frz hpm
    exact q _ H1 _ _ hR S2 (k1.trans k2) rp
/-- x.append(e) -/
theorem ws_app {to : TE} {p : Addr} (ho : EvD K F M to Γ (.adr p)) (hin : ∃ ds0, (p, Mv.lst ds0) ∈ M) (h : WpX K Pm F te Γ M fun d M' => ∃ i ds, M'[i]? = some (p, .lst ds) ∧ ds.length < 100000 ∧ P.n Γ (M'.set i (p, .lst (ds ++ [d])))) :
    WpS K Pm F (tDrop (tBM K "list" rAppend to (tCons te tNil))) Γ M P := fun H0 σ H D S n r b c =>
  ho σ H S.ms S.s _ fun v H1 e1 r1 => by
    cases r1
    obtain ⟨ds0, h0⟩ := hin
    obtain ⟨xs0, hx0, _⟩ := (S.ms.mono e1).ok _ h0
    refine ⟨.inl ⟨rfl, xs0, .inl (.inl hx0)⟩, h H0 σ H1 (S.mono e1) _ fun w H2 d M2 ⟨i, ds, hi, hz, hR⟩ S2 k2 r2 => ?_⟩
    obtain ⟨xs, hx, rx⟩ := S2.ms.ok _ (List.mem_of_getElem? hi)
    refine ⟨p, xs, w, rfl, rfl, hx, sz_lt (by rw [rx.len]; exact hz), ?_⟩
    have hp : p ∈ ads M2 ++ F := List.mem_append_left _ (List.mem_map.mpr ⟨_, List.mem_of_getElem? hi, rfl⟩)
    have hk : Same (hid (ads M2 ++ F) H2) (hid (ads M2 ++ F) (upd H2 p (.lst (xs ++ [w])))) := fun a o q => by
      obtain ⟨m, z⟩ := hid_some q
      rw [hid_out m, upd_ne (fun z => m (by rw [z]; exact hp))]
      exact z
    obtain ⟨S3, k3⟩ := S2.upd1 (H' := upd H2 p (.lst (xs ++ [w]))) (m' := .lst (ds ++ [d])) hi (fun a o ne q => by rw [upd_ne ne]; exact q) ⟨_, upd_same, (rx.mono hk).app (.cons (r2.mono hk) .nil)⟩
    exact n _ _ _ _ hR S3 (((Kp.of e1).trans k2).trans k3)
theorem upd_lst {p : Addr} {i : Nat} {ys : List V} {ds es : List Dv} (S : Stt K Pm F M H0 H σ Γ) (hi : M[i]? = some (p, .lst ds)) (r : RpL K (hid (ads M ++ F) H) ys es) :
    Stt K Pm F (M.set i (p, .lst es)) H0 (upd H p (.lst ys)) σ Γ ∧ Kp F M H (M.set i (p, .lst es)) (upd H p (.lst ys)) := by
  have hp : p ∈ ads M ++ F := List.mem_append_left _ (List.mem_map.mpr ⟨_, List.mem_of_getElem? hi, rfl⟩)
  have hk : Same (hid (ads M ++ F) H) (hid (ads M ++ F) (upd H p (.lst ys))) := fun a o q => by
    obtain ⟨m, z⟩ := hid_some q
    rw [hid_out m, upd_ne (fun z => m (by rw [z]; exact hp))]
    exact z
  exact S.upd1 (H' := upd H p (.lst ys)) (m' := .lst es) hi (fun a o ne q => by rw [upd_ne ne]; exact q) ⟨_, upd_same, r.mono hk⟩
/-- x[j] = e, j a number of places -/
theorem ws_setL {to ti : TE} {p : Addr} (h : WpX K Pm F te Γ M fun d M' => EvD K F M' to Γ (.adr p) ∧ ∃ i ds j, M'[i]? = some (p, .lst ds) ∧ EvD K F M' ti Γ (.int (j : Nat)) ∧ j < ds.length ∧ P.n Γ (M'.set i (p, .lst (ds.set j d)))) :
    WpS K Pm F (tAsg te (gSub to ti rSetL)) Γ M P := fun H0 σ H D S n r b c =>
  h H0 σ H S _ fun w H1 d M1 ⟨ho, i, ds, j, hi, hj, hlt, hR⟩ S1 k1 r1 =>
    ho σ H1 S1.ms S1.s _ fun v H2 e2 r2 => by
      cases r2
      refine hj σ H2 (S1.mono e2).ms (S1.mono e2).s _ fun u H3 e3 r3 => ?_
      cases r3
      have S3 := (S1.mono e2).mono e3
      obtain ⟨xs, hx, rx⟩ := S3.ms.ok _ (List.mem_of_getElem? hi)
      have hl := rx.len
      refine ⟨p, xs, _, j, rfl, rfl, hx, ?_, ?_⟩
      · unfold ixN
        rw [if_pos (by omega), if_pos (by omega)]
        simp
      · have r1' : Rp K (hid (ads M1 ++ F) H3) w d := (r1.mono (Kp.of e2)).mono (Kp.of e3)
        obtain ⟨S4, k4⟩ := upd_lst (ys := xs.set j w) (es := ds.set j d) S3 hi (RpL.set r1' j rx)
        exact n _ _ _ _ hR S4 (((k1.trans (Kp.of e2)).trans (Kp.of e3)).trans k4)
/-- x.pop(j) as a value -/
theorem wx_popAt {to : TE} {p : Addr} {tj : TE} (ho : EvD K F M to Γ (.adr p)) (hin : ∃ ds0, (p, Mv.lst ds0) ∈ M) (h : WpX K Pm F tj Γ M fun d M' => ∃ i ds j e, d = .int (j : Nat) ∧ M'[i]? = some (p, .lst ds) ∧ ds[j]? = some e ∧ ds.length ≤ 100000 ∧ R e (M'.set i (p, .lst (ds.eraseIdx j)))) :
    WpX K Pm F (tBM K "list" rPopAt to (tCons tj tNil)) Γ M R := fun H0 σ H S Q q =>
  ho σ H S.ms S.s _ fun v H1 e1 r1 => by
    cases r1
    obtain ⟨ds0, h0⟩ := hin
    obtain ⟨xs0, hx0, _⟩ := (S.ms.mono e1).ok _ h0
    refine ⟨.inl ⟨rfl, xs0, .inl (.inl hx0)⟩, h H0 σ H1 (S.mono e1) _ fun w H2 d M2 ⟨i, ds, j, e, he, hi, hj, hz, hR⟩ S2 k2 r2 => ?_⟩
    subst he
    cases r2
    obtain ⟨xs, hx, rx⟩ := S2.ms.ok _ (List.mem_of_getElem? hi)
    obtain ⟨u, hu, ru⟩ := rx.get hj
    have hl := rx.len
    have hjl := (List.getElem?_eq_some_iff.mp hj).1
    refine ⟨p, xs, (j : Int), j, u, rfl, rfl, hx, by omega, by omega, ?_, hu, ?_⟩
    · have := ixN_seq (n := xs.length) (i := (j : Int)) (j := j) (by
        unfold ixN
        rw [if_pos (by omega), if_pos (by omega)]
        simp)
      exact this.1
    · obtain ⟨S4, k4⟩ := upd_lst (ys := xs.eraseIdx j) (es := ds.eraseIdx j) S2 hi (RpL.erase j rx)
      exact q u _ e _ hR S4 (((Kp.of e1).trans k2).trans k4) (ru.mono k4)
end
end Dw
namespace Dw
open PySem L2
section
variable {K : PySem.W.Frag} {Pm F : List Addr} {M : Mu} {Γ : Ga} {ta tb te : TE} {x y z d : Dv} {t u : TT} {R : Dv → Mu → Prop} {P : Po} {H0 H H' : Hp} {σ : L2.St} {ts : TS}

/-- the state at a loop's turn: a word on the data, and what stands behind it -/
def Wd (K : PySem.W.Frag) (Pm F : List Addr) (M : Mu) (H0 H : Hp) (I : Ga → Mu → Prop) : L2.St → Hp → Prop :=
  fun σ' H' => ∃ Γ' M', I Γ' M' ∧ Stt K Pm F M' H0 H' σ' Γ' ∧ Kp F M H M' H'
theorem iLst_go {a : Addr} {xs : List V} (h : SqL K H a xs) : SqL K H a xs := h
/-- for name in a list of the data (or a tuple), the place of the name: any target g -/
theorem ws_forL {g : TG} {tl : TE} (h : WpX K Pm F tl Γ M fun d M1 => ∃ ds, (d = .lst ds ∨ d = .sql ds) ∧ ∃ I : Nat → Ga → Mu → Prop, I 0 Γ M1 ∧
      (∀ i e Γ' M', ds[i]? = some e → I i Γ' M' → ∃ Γ'', TgD K g e Γ' Γ'' ∧ WpS K Pm F ts Γ'' M' { n := I (i + 1), c := I (i + 1), b := P.n, r := P.r }) ∧
      ∀ Γ' M', I ds.length Γ' M' → P.n Γ' M') : WpS K Pm F (tFor (iList K tl) g ts) Γ M P := fun H0 σ H D S n r b c =>
  h H0 σ H S _ fun v H1 d M1 ⟨ds, hd, I, h0, ht, he⟩ S1 k1 r1 => by
    obtain ⟨a, xs, rfl, hq, rx⟩ : ∃ a xs, v = .ref a ∧ SqL K (hid (ads M1 ++ F) H1) a xs ∧ RpL K (hid (ads M1 ++ F) H1) xs ds := by
      rcases hd with rfl | rfl
      · cases r1 with
        | lst h r => exact ⟨_, _, rfl, .inl (.inl h), r⟩
      · cases r1 with
        | sql h r => exact ⟨_, _, rfl, h, r⟩
    refine ⟨a, rfl, ⟨xs, (hid_sub _ _).seq hq⟩, for_list (xs := xs) (fun i => Wd K Pm F M1 H0 H1 (I i)) ⟨Γ, M1, h0, S1, Same.refl _⟩ (fun i σ' H' _ p => ?_) (fun i x σ' H' hx p => ?_) fun σ' H' p => ?_⟩
    · obtain ⟨Γ', M', _, S', k'⟩ := p
      exact (hid_sub _ _).seq (k'.seq hq)
    · obtain ⟨Γ', M', hI, S', k'⟩ := p
      obtain ⟨e, he', re⟩ := rx.getV hx
      obtain ⟨Γ'', tg, hb⟩ := ht i e Γ' M' he' hI
      refine tg _ σ' H' x S'.s (re.mono k') _ fun σ2 s2 => ?_
      exact hb H0 σ2 H' _ ⟨S'.fr, S'.loc, S'.ms, s2⟩ (fun σ3 H3 Γ3 M3 q3 S3 k3 => ⟨Γ3, M3, q3, S3, k'.trans k3⟩) (fun v σ3 H3 Γ3 d M3 q3 S3 k3 r3 => r v σ3 H3 Γ3 d M3 q3 S3 ((k1.trans k').trans k3) r3)
        (fun σ3 H3 Γ3 M3 q3 S3 k3 => n σ3 H3 Γ3 M3 q3 S3 ((k1.trans k').trans k3)) (fun σ3 H3 Γ3 M3 q3 S3 k3 => ⟨Γ3, M3, q3, S3, k'.trans k3⟩)
    · obtain ⟨Γ', M', hI, S', k'⟩ := p
      rw [rx.len] at hI
      exact n σ' H' Γ' M' (he Γ' M' hI) S' (k1.trans k')
theorem ws_forT {g : TG} {tl : TE} (h : WpX K Pm F tl Γ M fun d M1 => ∃ ds, d = .tup ds ∧ ∃ I : Nat → Ga → Mu → Prop, I 0 Γ M1 ∧
      (∀ i e Γ' M', ds[i]? = some e → I i Γ' M' → ∃ Γ'', TgD K g e Γ' Γ'' ∧ WpS K Pm F ts Γ'' M' { n := I (i + 1), c := I (i + 1), b := P.n, r := P.r }) ∧
      ∀ Γ' M', I ds.length Γ' M' → P.n Γ' M') : WpS K Pm F (tFor (iTup K tl) g ts) Γ M P := fun H0 σ H D S n r b c =>
  h H0 σ H S _ fun v H1 d M1 ⟨ds, hd, I, h0, ht, he⟩ S1 k1 r1 => by
    obtain ⟨a, xs, rfl, hq, rx⟩ : ∃ a xs, v = .ref a ∧ SqT K (hid (ads M1 ++ F) H1) a xs ∧ RpL K (hid (ads M1 ++ F) H1) xs ds := by
      subst hd
      cases r1 with
      | tup h r => exact ⟨_, _, rfl, h.1, r⟩
    refine ⟨a, rfl, ⟨xs, sqT_hid hq⟩, for_tup (xs := xs) (fun i => Wd K Pm F M1 H0 H1 (I i)) ⟨Γ, M1, h0, S1, Same.refl _⟩ (fun i σ' H' _ p => ?_) (fun i x σ' H' hx p => ?_) fun σ' H' p => ?_⟩
    · obtain ⟨Γ', M', _, S', k'⟩ := p
      exact sqT_hid (sqT_mono k' hq)
    · obtain ⟨Γ', M', hI, S', k'⟩ := p
      obtain ⟨e, he', re⟩ := rx.getV hx
      obtain ⟨Γ'', tg, hb⟩ := ht i e Γ' M' he' hI
      refine tg _ σ' H' x S'.s (re.mono k') _ fun σ2 s2 => ?_
      exact hb H0 σ2 H' _ ⟨S'.fr, S'.loc, S'.ms, s2⟩ (fun σ3 H3 Γ3 M3 q3 S3 k3 => ⟨Γ3, M3, q3, S3, k'.trans k3⟩) (fun v σ3 H3 Γ3 d M3 q3 S3 k3 r3 => r v σ3 H3 Γ3 d M3 q3 S3 ((k1.trans k').trans k3) r3)
        (fun σ3 H3 Γ3 M3 q3 S3 k3 => n σ3 H3 Γ3 M3 q3 S3 ((k1.trans k').trans k3)) (fun σ3 H3 Γ3 M3 q3 S3 k3 => ⟨Γ3, M3, q3, S3, k'.trans k3⟩)
    · obtain ⟨Γ', M', hI, S', k'⟩ := p
      rw [rx.len] at hI
      exact n σ' H' Γ' M' (he Γ' M' hI) S' (k1.trans k')
/-- for name in range(n) -/
theorem ws_forR {g : TG} {tA : TA} (h : WpA K Pm F tA Γ M fun ds M1 => ∃ k : Int, ds = [.int k] ∧ k ≤ 100000 ∧ -100000 ≤ k ∧ ∃ I : Nat → Ga → Mu → Prop, I 0 Γ M1 ∧
      (∀ (i : Nat) Γ' M', (i : Int) < k → I i Γ' M' → ∃ Γ'', TgD K g (.int i) Γ' Γ'' ∧ WpS K Pm F ts Γ'' M' { n := I (i + 1), c := I (i + 1), b := P.n, r := P.r }) ∧
      ∀ Γ' M', I k.toNat Γ' M' → P.n Γ' M') : WpS K Pm F (tFor (iRng1 tA) g ts) Γ M P := fun H0 σ H D S n r b c =>
  h H0 σ H S _ fun vs H1 ds M1 ⟨k, hd, hz, hz', I, h0, ht, he⟩ S1 k1 r1 => by
    subst hd
    cases r1 with
    | cons r1 r2 =>
    cases r2
    cases r1
    refine ⟨k, rfl, by omega, by omega, for_range (lo := 0) (n := k.toNat) (fun i => Wd K Pm F M1 H0 H1 (I i)) ⟨Γ, M1, h0, S1, Same.refl _⟩ (fun i σ' H' hx p => ?_) fun σ' H' p => ?_⟩
    · obtain ⟨Γ', M', hI, S', k'⟩ := p
      obtain ⟨Γ'', tg, hb⟩ := ht i Γ' M' (by omega) hI
      have e0 : (0 : Int) + (i : Int) = (i : Int) := Int.zero_add _
      rw [e0]
      refine tg _ σ' H' _ S'.s (.int _) _ fun σ2 s2 => ?_
      exact hb H0 σ2 H' _ ⟨S'.fr, S'.loc, S'.ms, s2⟩ (fun σ3 H3 Γ3 M3 q3 S3 k3 => ⟨Γ3, M3, q3, S3, k'.trans k3⟩) (fun v σ3 H3 Γ3 d M3 q3 S3 k3 r3 => r v σ3 H3 Γ3 d M3 q3 S3 ((k1.trans k').trans k3) r3)
        (fun σ3 H3 Γ3 M3 q3 S3 k3 => n σ3 H3 Γ3 M3 q3 S3 ((k1.trans k').trans k3)) (fun σ3 H3 Γ3 M3 q3 S3 k3 => ⟨Γ3, M3, q3, S3, k'.trans k3⟩)
    · obtain ⟨Γ', M', hI, S', k'⟩ := p
      exact n σ' H' Γ' M' (he Γ' M' hI) S' (k1.trans k')
/-- while: a word with a measure -/
theorem ws_while {tc : TT} (I : Nat → Ga → Mu → Prop) (m0 : Nat) (h0 : I m0 Γ M)
    (ht : ∀ m Γ' M', I m Γ' M' → WpT K Pm F tc Γ' M' fun k M1 => (k = true → WpS K Pm F ts Γ' M1 { n := fun Γ2 M2 => ∃ m', m' < m ∧ I m' Γ2 M2, c := fun Γ2 M2 => ∃ m', m' < m ∧ I m' Γ2 M2, b := P.n, r := P.r }) ∧ (k = false → P.n Γ' M1)) :
    WpS K Pm F (tWhile tc ts) Γ M P := fun H0 σ H D S n r b c => by
  refine ⟨fun m => Wd K Pm F M H0 H (I m), ⟨m0, Γ, M, h0, S, Same.refl _⟩, fun m σ' H' ⟨Γ', M', hI, S', k'⟩ => ?_⟩
  refine ht m Γ' M' hI H0 σ' H' S' _ fun k H1 M1 ⟨h1, h2⟩ S1 k1 => ?_
  cases k with
  | true =>
    refine iteT ⟨fun σ2 H2 => ∃ m', m' < m ∧ Wd K Pm F M H0 H (I m') σ2 H2, fun _ _ q => q, ?_⟩
    exact h1 rfl H0 σ' H1 _ S1 (fun σ3 H3 Γ3 M3 ⟨m', hm, q3⟩ S3 k3 => ⟨m', hm, Γ3, M3, q3, S3, (k'.trans k1).trans k3⟩) (fun v σ3 H3 Γ3 d M3 q3 S3 k3 r3 => r v σ3 H3 Γ3 d M3 q3 S3 ((k'.trans k1).trans k3) r3)
      (fun σ3 H3 Γ3 M3 q3 S3 k3 => n σ3 H3 Γ3 M3 q3 S3 ((k'.trans k1).trans k3)) (fun σ3 H3 Γ3 M3 ⟨m', hm, q3⟩ S3 k3 => ⟨m', hm, Γ3, M3, q3, S3, (k'.trans k1).trans k3⟩)
  | false => exact iteF (n σ' H1 Γ' M1 (h2 rfl) S1 (k'.trans k1))

/-! ### comprehensions: one clause, the own name at j -/
theorem wipe_one (σ : L2.St) (j : Nat) (v : V) : wipe ((wipe σ [j]).set j (some v)) [j] = wipe σ [j] := by
  show ((σ.set j none).set j (some v)).set j none = σ.set j none
  rw [List.set_set, List.set_set]
theorem Sl.own {l : List Addr} {v : V} {j : Nat} (h : Sl K l H σ Γ) (r : Rp K (hid l H) v d) : Sl K l H ((wipe σ [j]).set j (some v)) (Γ.set j (some d)) := by
  show Sl K l H ((σ.set j none).set j (some v)) (Γ.set j (some d))
  rw [List.set_set]
  exact h.set j r
/-- the state at a comprehension's turn: the list so far at Dl is no mutable object of the words -/
def Wc (K : PySem.W.Frag) (Pm F : List Addr) (M : Mu) (H0 H : Hp) (σ : L2.St) (Γ : Ga) (Dl : Addr) (I : List Dv → Mu → Prop) : Hp → Prop :=
  fun H' => ∃ acc xs M', I acc M' ∧ acc.length ≤ 60000 ∧ H' Dl = some (.lst xs) ∧ RpL K (hid (Dl :: (ads M' ++ F)) H') xs acc ∧ Stt K Pm F ((Dl, .lst acc) :: M') H0 H' σ Γ ∧ Kp F M H ((Dl, .lst acc) :: M') H'
theorem ws_asg_id {i : Nat} : True := trivial
/-- a turn of a comprehension -/
theorem wc_turn {M1 : Mu} {H1 H2 : Hp} {σ : L2.St} {Γ : Ga} {Dl : Addr} {I I' : List Dv → Mu → Prop} {j : Nat} {v : V} {e : Dv} (p : Wc K Pm F M1 H0 H1 σ Γ Dl I H2) (re : ∀ M', Kp F M1 H1 M' H2 → Rp K (hid (ads M' ++ F) H2) v e)
    (ht : ∀ acc M', I acc M' → acc.length ≤ 60000 ∧ ∀ Dl, WpT K Pm F t (Γ.set j (some e)) ((Dl, .lst acc) :: M') fun k M2 => ∃ M3, M2 = (Dl, .lst acc) :: M3 ∧ (k = true → acc.length < 60000 ∧ WpX K Pm F te (Γ.set j (some e)) ((Dl, .lst acc) :: M3) fun y M4 => ∃ M5, M4 = (Dl, .lst acc) :: M5 ∧ I' (acc ++ [y]) M5) ∧ (k = false → I' acc M3)) :
    t ((wipe σ [j]).set j (some v)) H2 fun b H3 => if b = true then te ((wipe σ [j]).set j (some v)) H3 fun y H4 => ∃ acc, H4 Dl = some (.lst acc) ∧ acc.length < sizeLine ∧ Wc K Pm F M1 H0 H1 σ Γ Dl I' (upd H4 Dl (.lst (acc ++ [y]))) else Wc K Pm F M1 H0 H1 σ Γ Dl I' H3 := by
  obtain ⟨acc, xs, M', hI, hz, hx, rx, S, k⟩ := p
  obtain ⟨_, h⟩ := ht acc M' hI
  have S' : Stt K Pm F ((Dl, .lst acc) :: M') H0 H2 ((wipe σ [j]).set j (some v)) (Γ.set j (some e)) := ⟨S.fr, S.loc, S.ms, S.s.own (re _ k)⟩
  refine h Dl H0 _ H2 S' _ fun b H3 M2 ⟨M3, e2, h1, h2⟩ S3 k3 => ?_
  subst e2
  have back : ∀ {H3 : Hp} {acc' : List Dv} {M3 : Mu}, Stt K Pm F ((Dl, .lst acc') :: M3) H0 H3 ((wipe σ [j]).set j (some v)) (Γ.set j (some e)) → Kp F ((Dl, .lst acc) :: M') H2 ((Dl, .lst acc') :: M3) H3 → Stt K Pm F ((Dl, .lst acc') :: M3) H0 H3 σ Γ := fun S3 k3 => ⟨S3.fr, S3.loc, S3.ms, S.s.keep k3⟩
  cases b with
  | true =>
    obtain ⟨hz2, h1⟩ := h1 rfl
    refine iteT (h1 H0 _ H3 S3 _ fun y H4 d M4 ⟨M5, e4, hI'⟩ S4 k4 r4 => ?_)
    subst e4
    obtain ⟨ys, hy, ry⟩ := S4.ms.ok _ (List.mem_cons_self ..)
    have hl := ry.len
    refine ⟨ys, hy, sz_lt (by omega), ?_⟩
    have hi : ((Dl, Mv.lst acc) :: M5)[0]? = some (Dl, Mv.lst acc) := rfl
    obtain ⟨S5, k5⟩ := upd_lst (ys := ys ++ [y]) (es := acc ++ [d]) S4 hi (ry.app (.cons r4 .nil))
    have S6 := back S5 ((k3.trans k4).trans k5)
    obtain ⟨zs, hzs, rzs⟩ := S6.ms.ok _ (List.mem_cons_self ..)
    exact ⟨acc ++ [d], zs, M5, hI', by rw [List.length_append]; show acc.length + 1 ≤ 60000; omega, hzs, rzs, S6, (((k.trans k3).trans k4).trans k5)⟩
  | false =>
    have S6 := back S3 k3
    obtain ⟨zs, hzs, rzs⟩ := S6.ms.ok _ (List.mem_cons_self ..)
    exact iteF ⟨acc, zs, M3, h2 rfl, hz, hzs, rzs, S6, k.trans k3⟩
/-- behind a comprehension: the new list is data, or mutable -/
def LcT (K : PySem.W.Frag) (Pm F : List Addr) (t : TT) (te : TE) (Γ : Ga) (j : Nat) (e : Dv) (I I' : List Dv → Mu → Prop) : Prop :=
  ∀ acc M', I acc M' → acc.length ≤ 60000 ∧ ∀ Dl, WpT K Pm F t (Γ.set j (some e)) ((Dl, .lst acc) :: M') fun k M2 => ∃ M3, M2 = (Dl, .lst acc) :: M3 ∧ (k = true → acc.length < 60000 ∧ WpX K Pm F te (Γ.set j (some e)) ((Dl, .lst acc) :: M3) fun y M4 => ∃ M5, M4 = (Dl, .lst acc) :: M5 ∧ I' (acc ++ [y]) M5) ∧ (k = false → I' acc M3)
theorem wx_lcL {tl : TE} {j : Nat} (h : WpX K Pm F tl Γ M fun d M1 => ∃ ds, (d = .lst ds ∨ d = .sql ds) ∧ ∃ I : Nat → List Dv → Mu → Prop, I 0 [] M1 ∧ (∀ i e, ds[i]? = some e → LcT K Pm F t te Γ j e (I i) (I (i + 1))) ∧
      ∀ acc M', I ds.length acc M' → ∀ Dl, Dl ∉ ads M' ++ F → R (.adr Dl) ((Dl, .lst acc) :: M')) : WpX K Pm F (tLc (iList K tl) (gName j) t te [j]) Γ M R := fun H0 σ H S Q q =>
  h H0 σ H S _ fun v H1 d M1 ⟨ds, hd, I, h0, ht, he⟩ S1 k1 r1 => by
    obtain ⟨a, xs, rfl, hq, rx⟩ : ∃ a xs, v = .ref a ∧ SqL K (hid (ads M1 ++ F) H1) a xs ∧ RpL K (hid (ads M1 ++ F) H1) xs ds := by
      rcases hd with rfl | rfl
      · cases r1 with
        | lst h r => exact ⟨_, _, rfl, .inl (.inl h), r⟩
      · cases r1 with
        | sql h r => exact ⟨_, _, rfl, h, r⟩
    refine ⟨a, rfl, ⟨xs, (hid_sub _ _).seq hq⟩, fun Dl hD => ?_⟩
    obtain ⟨S2, k2⟩ := S1.newM (ds := []) (xs := []) hD (same_new (o := .lst []) hD) upd_same .nil
    refine lc_list (xs := xs) (fun i => Wc K Pm F M1 H0 H1 σ Γ Dl (I i)) ⟨[], [], M1, h0, Nat.zero_le _, upd_same, .nil, S2, k2⟩ (fun i H' _ p => ?_) (fun i x H' hx p => ?_) fun H' p => ?_
    · obtain ⟨acc, ys, M', _, _, _, _, _, k⟩ := p
      exact (hid_sub _ _).seq (k.seq hq)
    · obtain ⟨e, he', re⟩ := rx.getV hx
      refine ⟨wipe_one σ j x, wc_turn p (fun M' k => re.mono k) (ht i e he')⟩
    · obtain ⟨acc, ys, M', hI, _, hy, ry, S', k⟩ := p
      rw [rx.len] at hI
      exact q _ H' _ _ (he acc M' hI Dl (fun m => by
        rcases List.mem_append.mp m with m | m
        · exact (List.nodup_cons.mp S'.ms.nd).1 m
        · exact S'.ms.ap Dl m (List.mem_cons_self ..))) S' (k1.trans k) (.adr Dl)
theorem wx_lcR {tA : TA} {j : Nat} (h : WpA K Pm F tA Γ M fun ds M1 => ∃ k : Int, ds = [.int k] ∧ k ≤ 100000 ∧ -100000 ≤ k ∧ ∃ I : Nat → List Dv → Mu → Prop, I 0 [] M1 ∧ (∀ i : Nat, (i : Int) < k → LcT K Pm F t te Γ j (.int i) (I i) (I (i + 1))) ∧
      ∀ acc M', I k.toNat acc M' → ∀ Dl, Dl ∉ ads M' ++ F → R (.adr Dl) ((Dl, .lst acc) :: M')) : WpX K Pm F (tLc (iRng1 tA) (gName j) t te [j]) Γ M R := fun H0 σ H S Q q =>
  h H0 σ H S _ fun vs H1 ds M1 ⟨k, hd, hz, hz', I, h0, ht, he⟩ S1 k1 r1 => by
    subst hd
    cases r1 with
    | cons r1 r2 =>
    cases r2
    cases r1
    refine ⟨k, rfl, by omega, by omega, fun Dl hD => ?_⟩
    obtain ⟨S2, k2⟩ := S1.newM (ds := []) (xs := []) hD (same_new (o := .lst []) hD) upd_same .nil
    refine lc_range (lo := 0) (n := k.toNat) (fun i => Wc K Pm F M1 H0 H1 σ Γ Dl (I i)) ⟨[], [], M1, h0, Nat.zero_le _, upd_same, .nil, S2, k2⟩ (fun i H' hx p => ?_) fun H' p => ?_
    · have e0 : (0 : Int) + (i : Int) = (i : Int) := Int.zero_add _
      rw [e0]
      exact ⟨wipe_one σ j _, wc_turn p (fun M' k => .int _) (ht i (by omega))⟩
    · obtain ⟨acc, ys, M', hI, _, hy, ry, S', k⟩ := p
      exact q _ H' _ _ (he acc M' hI Dl (fun m => by
        rcases List.mem_append.mp m with m | m
        · exact (List.nodup_cons.mp S'.ms.nd).1 m
        · exact S'.ms.ap Dl m (List.mem_cons_self ..))) S' (k1.trans k) (.adr Dl)
end
end Dw
namespace Dw
open PySem L2

/-- where a body starts -/
def gs (N : List Str) (ds : List Dv) : Ga := ds.map some ++ List.replicate (N.length - ds.length) none
section
variable {K : PySem.W.Frag} {Pm F : List Addr} {M : Mu} {Γ : Ga} {ta tb te : TE} {x y z d : Dv} {t u : TT} {R : Dv → Mu → Prop} {P : Po} {H0 H H' : Hp} {σ : L2.St} {ts : TS}
theorem start_sl {N : List Str} {vs : List V} {ds : List Dv} {l : List Addr} (r : RpL K (hid l H) vs ds) (hn : vs.length ≤ N.length) : Sl K l H (L2.start N vs) (gs N ds) := by
  have hl := r.len
  unfold L2.start gs
  refine ⟨by simp; omega, fun i e q => ?_⟩
  by_cases hi : i < ds.length
  · rw [List.getElem?_append_left (by simpa using hi)] at q
    rw [List.getElem?_map] at q
    cases w : ds[i]? with
    | none => rw [w] at q; cases q
    | some e' =>
      rw [w] at q
      cases q
      obtain ⟨v, hv, rv⟩ := r.get w
      exact ⟨v, by rw [List.getElem?_append_left (by simp; omega), List.getElem?_map, hv]; rfl, rv⟩
  · rw [List.getElem?_append_right (by simp; omega)] at q
    rw [List.getElem?_replicate] at q
    split at q <;> cases q
theorem body {N : List Str} {n : Nat} {S : DS} {vs : List V} {Q : VK} {E : XK} (h : spD K n S vs H Q E) (hN : n ≤ N.length)
    (k : ∀ F M ds R, S ds M R → ds.length = n → WpS K (ads M) F ts (gs N ds) M { n := fun _ M' => ∃ N M2, M' = N ++ M2 ∧ ads M2 = ads M ∧ R .non M', r := fun d M' => ∃ N M2, M' = N ++ M2 ∧ ads M2 = ads M ∧ R d M' }) :
    ts { nx := fun _ H' => Q .non H', rt := Q } (L2.start N vs) H := by
  obtain ⟨F, M, ds, R, e, hm, r, hs, q⟩ := h
  have st : Stt K (ads M) F M H H (L2.start N vs) (gs N ds) := ⟨fun _ _ _ h => h, fun p hp => .inl (List.mem_map.mpr ⟨p, hp, rfl⟩), hm, start_sl r (by omega)⟩
  have new : ∀ {N M2 : Mu} {H' : Hp} {σ' : L2.St} {Γ' : Ga}, ads M2 = ads M → Stt K (ads M) F (N ++ M2) H H' σ' Γ' → ∀ q ∈ N, H q.1 = none := fun {N M2 H' σ' Γ'} ea S' q hq => by
    rcases S'.loc q (List.mem_append_left _ hq) with z | z
    · have nd := S'.ms.nd
      rw [show ads (N ++ M2) = ads N ++ ads M2 from List.map_append ..] at nd
      exact absurd rfl ((List.nodup_append.mp nd).2.2 q.1 (List.mem_map.mpr ⟨q, hq, rfl⟩) q.1 (by rw [ea]; exact z))
    · exact z
  refine k F M ds R hs (by rw [← r.len]; exact e) H _ H _ st (fun σ' H' Γ' M' ⟨N, M2, e1, ea, hR⟩ S' k' => ?_) (fun v σ' H' Γ' d M' ⟨N, M2, e1, ea, hR⟩ S' k' rv => ?_) (fun _ _ _ _ z => z.elim) (fun _ _ _ _ z => z.elim)
  · subst e1
    exact q .non H' .non N M2 hR ea (new ea S') S'.fr S'.ms .non
  · subst e1
    exact q v H' d N M2 hR ea (new ea S') S'.fr S'.ms rv
/-- a call in an expression that changes nothing -/
theorem ed_call {n : Nat} {S : DS} {tA : TA} {E : XK} {ds : List Dv} (h : EvA K F M tA Γ ds) (hn : ds.length = n) (hs : S ds [] fun d' N => d' = d ∧ N = []) : EvD K F M (tCall (spD K n S) [] E tA) Γ d := fun σ H m s Q q =>
  h σ H m s _ fun vs H1 e1 r1 => by
    have m1 := m.mono e1
    refine ⟨ads M ++ F, [], ds, _, ?_, ⟨fun q hq => (nomatch hq), List.nodup_nil, fun a ha => ?_, fun a _ hm => (nomatch hm)⟩, ?_, hs, fun v H2 d' N M2 hR ha hnew hf hm r2 => ?_⟩
    · rw [List.append_nil, r1.len]; exact hn
    · rcases List.mem_append.mp ha with z | z
      · obtain ⟨q', hq, e⟩ := List.mem_map.mp z
        rw [← e]
        exact (m1.ok q' hq).there
      · exact m1.ff a z
    · rw [List.append_nil]; exact r1
    · obtain ⟨rfl, e0⟩ := hR
      have e : Same H1 H2 := fun a o => hf a o (fun z => nomatch z)
      rw [e0] at r2
      exact q v H2 (e1.trans e) r2

/-! ### operations: one rule for a sign, whatever the kinds -/
def rAddS : R2 := fun x y H Q => ∃ i j, x = .str i ∧ y = .str j ∧ i.length + j.length ≤ sizeLine ∧ Q (.str (i ++ j)) H
def rAddG (K : PySem.W.Frag) : R2 := fun x y H Q => rI0 (fun i j => .int (i + j)) x y H Q ∨ rAddS x y H Q ∨ rCat x y H Q ∨ rCatF K x y H Q
theorem op_addG {X : Cx} (hK : X.K = K) : OpR X (binaryOp .Add) (rAddG K) := hK ▸ op_add.or (op_add_str.or (op_cat.or op_catF))
theorem od_addI {i j : Int} : OpD K F M (rAddG K) (.int i) (.int j) (.int (i + j)) := fun v w H m r1 r2 Q q => .inl (od_int (fun _ => .int _) v w H m r1 r2 Q q)
theorem od_addS {i j : Str} (h : i.length + j.length ≤ 1000000) : OpD K F M (rAddG K) (.str i) (.str j) (.str (i ++ j)) := fun v w H m r1 r2 Q q => by
  cases r1; cases r2
  exact .inr (.inl ⟨i, j, rfl, rfl, Nat.le_trans h (by decide), q _ H (Same.refl H) (.str _)⟩)
theorem od_addL {i j : List Dv} (h : i.length + j.length ≤ 100000) : OpD K F M (rAddG K) (.lst i) (.lst j) (.lst (i ++ j)) := fun v w H m r1 r2 Q q => by
  cases r1 with
  | lst h1 r1 =>
  cases r2 with
  | lst h2 r2 =>
    refine .inr (.inr (.inl ⟨_, _, _, _, rfl, rfl, (hid_some h1).2, (hid_some h2).2, sz_of (by rw [r1.len, r2.len]; exact h), fun p hp => q _ _ (same_new hp) (m.newL hp (r1.app r2))⟩))
theorem od_addT {i j : List Dv} (h : i.length + j.length ≤ 100000) : OpD K F M (rAddG K) (.tup i) (.tup j) (.tup (i ++ j)) := fun v w H m r1 r2 Q q => by
  cases r1 with
  | tup h1 r1 =>
  cases r2 with
  | tup h2 r2 =>
    refine .inr (.inr (.inr ⟨_, _, _, _, rfl, rfl, sqT_hid h1.1, sqT_hid h2.1, sz_of (by rw [r1.len, r2.len]; exact h), fun e => ?_, fun _ e => ?_, fun _ _ p hp o z => q _ _ (same_new hp) (m.newT hp z (r1.app r2))⟩))
    · subst e
      cases r1
      exact q _ H (Same.refl H) (.tup h2 r2)
    · subst e
      cases r2
      rw [List.append_nil] at q
      exact q _ H (Same.refl H) (.tup h1 r1)
def rSubI : R2 := rI0 fun i j => .int (i - j)
theorem op_subG {X : Cx} : OpR X (binaryOp .Sub) rSubI := op_sub
theorem od_sub {i j : Int} : OpD K F M rSubI (.int i) (.int j) (.int (i - j)) := od_int fun _ => .int _
def rMulI : R2 := rI CMul fun i j => .int (i * j)
theorem op_mulG {X : Cx} : OpR X (binaryOp .Mult) rMulI := op_mul
theorem od_mul {i j : Int} (h : CMul i j) : OpD K F M rMulI (.int i) (.int j) (.int (i * j)) := od_intC h fun _ => .int _
def rModI : R2 := rI (fun _ j => 0 < j) fun i j => .int (i % j)
theorem op_modG {X : Cx} : OpR X (binaryOp .Mod) rModI := op_mod
theorem od_mod {i j : Int} (h : 0 < j) : OpD K F M rModI (.int i) (.int j) (.int (i % j)) := od_intC h fun _ => .int _
def rDivI : R2 := rI CDiv fun i j => .int (i / j)
theorem op_divG {X : Cx} : OpR X (binaryOp .FloorDiv) rDivI := op_fdiv
theorem od_div {i j : Int} (h : CDiv i j) : OpD K F M rDivI (.int i) (.int j) (.int (i / j)) := od_intC h fun _ => .int _
def rPowI : R2 := rI CPow fun i j => .int (i ^ j.toNat)
theorem op_powG {X : Cx} : OpR X (binaryOp .Pow) rPowI := op_pow
theorem od_pow {i j : Int} (h : CPow i j) : OpD K F M rPowI (.int i) (.int j) (.int (i ^ j.toNat)) := od_intC h fun _ => .int _
def rLtI : R2 := rI0 fun i j => .bl (decide (i < j))
def rLeI : R2 := rI0 fun i j => .bl (decide (i ≤ j))
def rGtI : R2 := rI0 fun i j => .bl (decide (j < i))
def rGeI : R2 := rI0 fun i j => .bl (decide (j ≤ i))
theorem op_ltG {X : Cx} : OpR X (compareOp .Lt) rLtI := op_lt
theorem op_leG {X : Cx} : OpR X (compareOp .LtE) rLeI := op_le
theorem op_gtG {X : Cx} : OpR X (compareOp .Gt) rGtI := op_gt
theorem op_geG {X : Cx} : OpR X (compareOp .GtE) rGeI := op_ge
theorem od_lt {i j : Int} : OpD K F M rLtI (.int i) (.int j) (.bl (decide (i < j))) := od_int fun _ => .bl _
theorem od_le {i j : Int} : OpD K F M rLeI (.int i) (.int j) (.bl (decide (i ≤ j))) := od_int fun _ => .bl _
theorem od_gt {i j : Int} : OpD K F M rGtI (.int i) (.int j) (.bl (decide (j < i))) := od_int fun _ => .bl _
theorem od_ge {i j : Int} : OpD K F M rGeI (.int i) (.int j) (.bl (decide (j ≤ i))) := od_int fun _ => .bl _

/-! is None -/
def rIsN : R2 := fun x y H Q => y = .non ∧ Q (.bl (decide (x = .non))) H
def rNotN : R2 := fun x y H Q => y = .non ∧ Q (.bl (!decide (x = .non))) H
theorem op_isG {X : Cx} : OpR X (compareOp .Is) rIsN := op_isN
theorem op_isnG {X : Cx} : OpR X (compareOp .IsNot) rNotN := op_notN
def Dv.isN : Dv → Bool
  | .non => true
  | _ => false
theorem isN_of {l : List Addr} {v : V} (r : Rp K (hid l H) v d) : decide (v = .non) = d.isN := by
  cases r <;> rfl
theorem od_isN : OpD K F M rIsN d .non (.bl d.isN) := fun v w H m r1 r2 Q q => by
  cases r2
  refine ⟨rfl, ?_⟩
  rw [isN_of r1]
  exact q _ H (Same.refl H) (.bl _)
theorem od_notN : OpD K F M rNotN d .non (.bl (!d.isN)) := fun v w H m r1 r2 Q q => by
  cases r2
  refine ⟨rfl, ?_⟩
  rw [isN_of r1]
  exact q _ H (Same.refl H) (.bl _)

/-! == of what has no parts, and of data -/
/-- data that == compares part by part -/
def Dv.py : Dv → Option PyData
  | .non => some .none
  | .bl b => some (.bool b)
  | .int i => some (.int i)
  | .str x => some (.str x)
  | .lst xs => (pyL xs).map .list
  | .tup xs => (pyL xs).map .tuple
  | _ => none
where pyL : List Dv → Option (List PyData)
  | [] => some []
  | d :: ds => match d.py, pyL ds with
    | some a, some as => some (a :: as)
    | _, _ => none
def rEqG (K : PySem.W.Frag) : R2 := fun x y H Q => rEq x y H Q ∨ rEqD K x y H Q
def rNeG (K : PySem.W.Frag) : R2 := fun x y H Q => rNe x y H Q ∨ rNeD K x y H Q
theorem op_eqG {X : Cx} (hK : X.K = K) (hu : X.A.units + 64 < cLine) : OpR X (compareOp .Eq) (rEqG K) := hK ▸ op_eq.or (op_eqD hu)
theorem op_neG {X : Cx} (hK : X.K = K) (hu : X.A.units + 64 < cLine) : OpR X (compareOp .NotEq) (rNeG K) := hK ▸ op_ne.or (op_neD hu)
theorem od_eqI {i j : Int} : OpD K F M (rEqG K) (.int i) (.int j) (.bl (decide (i = j))) := fun v w H m r1 r2 Q q => by
  cases r1; cases r2
  refine .inl ⟨rfl, ?_⟩
  have e : decide (V.int i = V.int j) = decide (i = j) := by rw [dec_int]; rfl
  rw [e]
  exact q _ H (Same.refl H) (.bl _)
theorem od_eqS {i j : Str} : OpD K F M (rEqG K) (.str i) (.str j) (.bl (decide (i = j))) := fun v w H m r1 r2 Q q => by
  cases r1; cases r2
  refine .inl ⟨rfl, ?_⟩
  have e : decide (V.str i = V.str j) = decide (i = j) := decide_eq_decide.mpr ⟨fun h => V.str.inj h, fun h => congrArg V.str h⟩
  rw [e]
  exact q _ H (Same.refl H) (.bl _)
theorem od_neI {i j : Int} : OpD K F M (rNeG K) (.int i) (.int j) (.bl (!decide (i = j))) := fun v w H m r1 r2 Q q => by
  cases r1; cases r2
  refine .inl ⟨rfl, ?_⟩
  have e : decide (V.int i = V.int j) = decide (i = j) := by rw [dec_int]; rfl
  rw [e]
  exact q _ H (Same.refl H) (.bl _)
theorem od_neS {i j : Str} : OpD K F M (rNeG K) (.str i) (.str j) (.bl (!decide (i = j))) := fun v w H m r1 r2 Q q => by
  cases r1; cases r2
  refine .inl ⟨rfl, ?_⟩
  have e : decide (V.str i = V.str j) = decide (i = j) := decide_eq_decide.mpr ⟨fun h => V.str.inj h, fun h => congrArg V.str h⟩
  rw [e]
  exact q _ H (Same.refl H) (.bl _)

/-! items -/
def rIxG (K : PySem.W.Frag) : R2 := rIx K
theorem ix_G {X : Cx} (hK : X.K = K) : IxR X (rIxG K) := hK ▸ ix_seq
theorem atI_of {α : Type} {xs : List α} {j : Nat} {v : α} (h : xs[j]? = some v) : atI xs (j : Int) = some v := atI_nat h
theorem od_ixL {ds : List Dv} {j : Nat} (h : ds[j]? = some d) : OpD K F M (rIxG K) (.lst ds) (.int (j : Int)) d := fun v w H m r1 r2 Q q => by
  cases r1 with
  | lst h1 r1 =>
  cases r2
  obtain ⟨u, hu, ru⟩ := r1.get h
  exact .inl ⟨_, _, _, u, rfl, rfl, .inl (.inl (hid_some h1).2), atI_of hu, q u H (Same.refl H) ru⟩
theorem od_ixT {ds : List Dv} {j : Nat} (h : ds[j]? = some d) : OpD K F M (rIxG K) (.tup ds) (.int (j : Int)) d := fun v w H m r1 r2 Q q => by
  cases r1 with
  | tup h1 r1 =>
  cases r2
  obtain ⟨u, hu, ru⟩ := r1.get h
  exact .inr (.inl ⟨_, _, _, u, rfl, rfl, sqT_hid h1.1, atI_of hu, q u H (Same.refl H) ru⟩)
theorem od_ixM {p : Addr} {i : Nat} {ds : List Dv} {j : Nat} (hi : M[i]? = some (p, .lst ds)) (h : ds[j]? = some d) : OpD K F M (rIxG K) (.adr p) (.int (j : Int)) d := fun v w H m r1 r2 Q q => by
  cases r1
  cases r2
  obtain ⟨xs, hx, rx⟩ := m.ok _ (List.mem_of_getElem? hi)
  obtain ⟨u, hu, ru⟩ := rx.get h
  exact .inl ⟨_, _, _, u, rfl, rfl, .inl (.inl hx), atI_of hu, q u H (Same.refl H) ru⟩
theorem od_ixS {s : Str} {j : Nat} {c : Nat} (hz : s.length ≤ 1000000) (h : s.cps.toList[j]? = some c) : OpD K F M (rIxG K) (.str s) (.int (j : Int)) (.str ⟨#[c]⟩) := fun v w H m r1 r2 Q q => by
  cases r1
  cases r2
  exact .inr (.inr ⟨_, _, c, rfl, rfl, Nat.le_trans hz (by decide), atI_of h, q _ H (Same.refl H) (.str _)⟩)

/-! built-ins -/
def rLenG (K : PySem.W.Frag) : List V → Hp → VK → Prop := fun xs H Q => ∃ x n, xs = [x] ∧ LenV K x H n ∧ Q (.int n) H
theorem call_lenG {X : Cx} (hK : X.K = K) : CallR X (.builtin "len") (rLenG K) := hK ▸ call_len
theorem cd_lenL {ds : List Dv} : CaD K F M (rLenG K) [.lst ds] (.int ds.length) := fun vs H m r Q q => by
  cases r with
  | cons r1 r2 =>
  cases r2
  cases r1 with
  | lst h1 r1 => exact ⟨_, ds.length, rfl, .inl ⟨_, .inl (.inl (hid_some h1).2), r1.len.symm⟩, q _ H (Same.refl H) (.int _)⟩
theorem cd_lenT {ds : List Dv} : CaD K F M (rLenG K) [.tup ds] (.int ds.length) := fun vs H m r Q q => by
  cases r with
  | cons r1 r2 =>
  cases r2
  cases r1 with
  | tup h1 r1 => exact ⟨_, ds.length, rfl, .inr ⟨_, sqT_hid h1.1, r1.len.symm⟩, q _ H (Same.refl H) (.int _)⟩
theorem cd_lenM {p : Addr} {i : Nat} {ds : List Dv} (hi : M[i]? = some (p, .lst ds)) : CaD K F M (rLenG K) [.adr p] (.int ds.length) := fun vs H m r Q q => by
  cases r with
  | cons r1 r2 =>
  cases r2
  cases r1
  obtain ⟨xs, hx, rx⟩ := m.ok _ (List.mem_of_getElem? hi)
  exact ⟨_, ds.length, rfl, .inl ⟨_, .inl (.inl hx), rx.len.symm⟩, q _ H (Same.refl H) (.int _)⟩
theorem cd_lenS {s : Str} (hz : s.length ≤ 1000000) : CaD K F M (rLenG K) [.str s] (.int s.length) := fun vs H m r Q q => by
  cases r with
  | cons r1 r2 =>
  cases r2
  cases r1
  exact ⟨_, s.length, rfl, ⟨Nat.le_trans hz (by decide), rfl⟩, q _ H (Same.refl H) (.int _)⟩
def rMin2 : List V → Hp → VK → Prop := fun xs H Q => ∃ i j, xs = [.int i, .int j] ∧ Q (.int (if j < i then j else i)) H
def rMax2 : List V → Hp → VK → Prop := fun xs H Q => ∃ i j, xs = [.int i, .int j] ∧ Q (.int (if j > i then j else i)) H
def rAbs : List V → Hp → VK → Prop := fun xs H Q => ∃ i, xs = [.int i] ∧ Q (.int (if i < 0 then -i else i)) H
theorem call_minG {X : Cx} (hc : X.calm = true) : CallR X (.builtin "min") rMin2 := call_min2 hc
theorem call_maxG {X : Cx} (hc : X.calm = true) : CallR X (.builtin "max") rMax2 := call_max2 hc
theorem call_absG {X : Cx} : CallR X (.builtin "abs") rAbs := call_abs
theorem cd_min {i j : Int} : CaD K F M rMin2 [.int i, .int j] (.int (if j < i then j else i)) := fun vs H m r Q q => by
  cases r with
  | cons r1 r2 => cases r1; cases r2 with
    | cons r2 r3 => cases r2; cases r3; exact ⟨i, j, rfl, q _ H (Same.refl H) (.int _)⟩
theorem cd_max {i j : Int} : CaD K F M rMax2 [.int i, .int j] (.int (if j > i then j else i)) := fun vs H m r Q q => by
  cases r with
  | cons r1 r2 => cases r1; cases r2 with
    | cons r2 r3 => cases r2; cases r3; exact ⟨i, j, rfl, q _ H (Same.refl H) (.int _)⟩
theorem cd_abs {i : Int} : CaD K F M rAbs [.int i] (.int (if i < 0 then -i else i)) := fun vs H m r Q q => by
  cases r with
  | cons r1 r2 => cases r1; cases r2; exact ⟨i, rfl, q _ H (Same.refl H) (.int _)⟩
def rListG (K : PySem.W.Frag) : List V → Hp → VK → Prop := fun xs H Q => ∃ p ys, xs = [.ref p] ∧ (SqL K H p ys ∨ SqT K H p ys) ∧ ∀ l, H l = none → Q (.ref l) (upd H l (.lst ys))
theorem call_listG {X : Cx} (hK : X.K = K) : CallR X (.type "list") (rListG K) := hK ▸ call_list_of
theorem en_list {ds : List Dv} {tA : TA} {a : Dv} (h : EvA K F M tA Γ [a]) (ha : a = .lst ds ∨ a = .tup ds) : EvN K F M (tCB (rListG K) tA) Γ ds := fun σ H m s Q q =>
  h σ H m s _ fun vs H1 e1 r1 => by
    cases r1 with
    | cons r1 r2 =>
    cases r2
    have key : ∀ ys, RpL K (hid (ads M ++ F) H1) ys ds → ∀ l, H1 l = none → Q (.ref l) (upd H1 l (.lst ys)) := fun ys ry l hl => q l _ ys (none_back e1 hl) (e1.trans (same_new hl)) upd_same (ry.mono (hid_new hl))
    rcases ha with rfl | rfl
    · cases r1 with
      | lst h1 ry => exact ⟨_, _, rfl, .inl (.inl (.inl (hid_some h1).2)), key _ ry⟩
    · cases r1 with
      | tup h1 ry => exact ⟨_, _, rfl, .inr (sqT_hid h1.1), key _ ry⟩
/-- a new list that stays as it is -/
theorem ed_new {ds : List Dv} (h : EvN K F M te Γ ds) : EvD K F M te Γ (.lst ds) := fun σ H m s Q q => h σ H m s Q fun p H' xs hp e hx r =>
  q _ H' e (.lst (by rw [hid_out (m.fresh hp)]; exact hx) (r.mono fun a o z => by
    obtain ⟨n, w⟩ := hid_some z
    have n' : a ∉ ads M ++ F := fun m => n (List.mem_cons_of_mem _ m)
    rw [hid_out n']
    exact w))
end
end Dw
namespace Dw
open PySem L2
/-- a def stands behind the top under its name -/
structure DefT (K : PySem.W.Frag) (mg : Str → Option Value) (x qual : Str) (st : Stmt) (ps : List Str) : Prop where
  ex : ∃ f fd, Fun K x qual st f fd ∧ mg x = some (.ref f) ∧ Binds K fd ps []
/-- a def, as its callers see it -/
structure Cal (P : Program) (w : World) (K : PySem.W.Frag) (mg : Str → Option Value) (base : Heap) (k : Nat) (x : Str) (ps : List Str) (sp : Sp) : Prop where
  ex : ∃ f fd, FnOk P w K mg base CX0 k f fd ps sp ∧ mg x = some (.ref f) ∧ PySem.W.keepIn K (.ref f) = true ∧ Binds K fd ps []
section
variable {P : Program} {w : World} {K : PySem.W.Frag} {mg : Str → Option Value} {base : Heap} {k : Nat} {x qual : Str} {st : Stmt} {N ps : List Str} {sp : Sp}
theorem DefT.cal (D : DefT K mg x qual st ps) (h : ∀ f fd, Fun K x qual st f fd → FnOk P w K mg base CX0 k f fd ps sp) : Cal P w K mg base k x ps sp := by
  obtain ⟨f, fd, F, hm, hb⟩ := D.ex
  exact ⟨f, fd, h f fd F, hm, F.kp, hb⟩
end
section
variable {X : Cx} {k : Nat} {x : Str} {ps : List Str} {sp : Sp} {p pos : Pos} {e : Expr} {es : List Expr} {t : TA} {te : TE}
theorem pe_cal (c : Cal X.prog X.w X.K X.mg X.base k x ps sp) (hr : Room k X.A) (hg : Gl X x) (ha : PA X (e :: es) t) (hdb : (x == ("__debug__" : Str)) = false := by decide) (he : starEach (e :: es) X.env = (false, eval e X.env) :: starEach es X.env := by rfl) (hpl : (backTo pos (starEach es X.env)).any (·.1) = false := by rfl) :
    PE X (.Call (.Name x p) (e :: es) [] pos) (tCall sp [] E0 t) := by
  obtain ⟨f, fd, F, hm, hk, hb⟩ := c.ex
  exact pe_call F hr hg hm hk hb .nil pass0 ha hdb he hpl
theorem pe_cal0 (c : Cal X.prog X.w X.K X.mg X.base k x ps sp) (hr : Room k X.A) (hg : Gl X x) (hdb : (x == ("__debug__" : Str)) = false := by decide) :
    PE X (.Call (.Name x p) [] [] pos) (tCall sp [] E0 tNil) := by
  obtain ⟨f, fd, F, hm, hk, hb⟩ := c.ex
  exact pe_call0 F hr hg hm hk hb .nil pass0 hdb
/-- a module's constant -/
structure CstT (mg : Str → Option Value) (x : Str) (v : V) : Prop where
  ex : ∃ u, mg x = some u ∧ RelV v u
theorem pe_cst {v : V} (hg : Gl X x) (c : CstT X.mg x v) (hd : (x == ("__debug__" : Str)) = false := by decide) : PE X (.Name x pos) (tC v) := by
  obtain ⟨u, hm, r⟩ := c.ex
  exact pe_glob hg hm r hd
/-- a value's truth as a test -/
def tTru (K : PySem.W.Frag) (ta : TE) : TT := fun σ H Q => ta σ H fun x H' => ∃ k, TruV K x H' k ∧ Q k H'
theorem pt_tru {K : PySem.W.Frag} (hK : X.K = K) (ha : PE X e te) (he : ∀ whole, isTrue e X.env whole = (do let v ← whole; standAt e.pos; holding [v] (truthy v)) := by intro _; rfl) : PT X e (tTru K te) := hK ▸ pt_truth ha he
theorem pe_fldK {K : PySem.W.Frag} {f : Str} (hK : X.K = K) (he : PE X e te) (hb : attributeBase e f X.env (eval e X.env) = eval e X.env) : PE X (.Attribute e f pos) (tFld K te f) := hK ▸ pe_fld he hb
end
end Dw
namespace Dw
open PySem L2
/-- the list that the numbers are drawn from -/
def Rnd (l : List Int) : Prop := ∃ s e r, l = s :: e :: r ∧ 0 ≤ s ∧ s < 2147483647 ∧ 0 ≤ e ∧ (∀ x ∈ r, 1 ≤ x) ∧ r.length ≤ 100
abbrev rl (l : List Int) : Mv := .lst (l.map Dv.int)
def S_below : DS := fun ds M R => ∃ r l n, ds = [.adr r, .int n] ∧ M = [(r, rl l)] ∧ Rnd l ∧ 0 < n ∧ n < 1073741824 ∧ ∀ k l', 0 ≤ k → k < n → Rnd l' → R (.int k) [(r, rl l')]
end Dw
namespace Dw
open PySem L2
section
variable {K : PySem.W.Frag} {Pm F : List Addr} {M : Mu} {Γ : Ga} {ts tu : TS} {P : Po}
/-- a word between two statements -/
theorem ws_cut (N : Ga → Mu → Prop) (h1 : WpS K Pm F ts Γ M { n := N, r := P.r, b := P.b, c := P.c }) (h2 : ∀ Γ' M', N Γ' M' → WpS K Pm F tu Γ' M' P) : WpS K Pm F (tSeq ts tu) Γ M P :=
  ws_seq (ws_imp h1 h2 (fun _ _ h => h) (fun _ _ h => h) (fun _ _ h => h))
end
end Dw
namespace Dw
open PySem L2
section
variable {K : PySem.W.Frag} {Pm F : List Addr} {M : Mu} {Γ : Ga} {ta tb te tl : TE} {x y z d : Dv} {t u : TT} {R : Dv → Mu → Prop} {P : Po} {H0 H H' : Hp} {σ : L2.St} {ts : TS}
theorem et_yes : EvT K F M tYes Γ true := fun σ H m s Q q => q H (Same.refl H)
theorem swap_hid {Dl : Addr} {l : List Addr} {h : Hp} : hid (ads M ++ Dl :: F) h = hid (Dl :: (ads M ++ F)) h := hid_congr fun a => by
  simp only [List.mem_append, List.mem_cons]
  constructor
  · rintro (h | h | h)
    · exact .inr (.inl h)
    · exact .inl h
    · exact .inr (.inr h)
  · rintro (h | h | h)
    · exact .inr (.inl h)
    · exact .inl h
    · exact .inr (.inr h)
/-- the state within a comprehension: the list at Dl is foreign to its parts -/
structure Lcs (K : PySem.W.Frag) (F : List Addr) (M : Mu) (H1 : Hp) (Dl : Addr) (acc : List Dv) (H' : Hp) : Prop where
  e : Same H1 H'
  l : ∃ xs, H' Dl = some (.lst xs) ∧ RpL K (hid (Dl :: (ads M ++ F)) H') xs acc
theorem Lcs.keep {H1 : Hp} {Dl : Addr} {acc : List Dv} (hD : H1 Dl = none) (c : Lcs K F M H1 Dl acc H') : Same (hid (ads M ++ F) H1) (hid (ads M ++ Dl :: F) H') := fun a o q => by
  obtain ⟨n, z⟩ := hid_some q
  have ne : a ≠ Dl := ne_of_none z hD
  have : a ∉ ads M ++ Dl :: F := fun m => by
    rcases List.mem_append.mp m with m | m
    · exact n (List.mem_append_left _ m)
    · rcases List.mem_cons.mp m with m | m
      · exact ne m
      · exact n (List.mem_append_right _ m)
  rw [hid_out this]
  exact c.e a o z
theorem Lcs.ms {H1 : Hp} {Dl : Addr} {acc : List Dv} (hD : H1 Dl = none) (m : Ms K F M H1) (c : Lcs K F M H1 Dl acc H') : Ms K (Dl :: F) M H' := by
  have hn := m.fresh hD
  refine ⟨fun q hq => (m.ok q hq).keep (c.keep hD) fun o => c.e _ o, m.nd, fun a ha => ?_, fun a ha hm => ?_⟩
  · rcases List.mem_cons.mp ha with z | z
    · obtain ⟨xs, hx, _⟩ := c.l
      rw [z]; exact ⟨_, hx⟩
    · obtain ⟨o, w⟩ := m.ff a z
      exact ⟨o, c.e _ _ w⟩
  · rcases List.mem_cons.mp ha with z | z
    · exact hn (List.mem_append_left _ (by rw [← z]; exact hm))
    · exact m.ap a z hm
theorem Lcs.turn {H1 : Hp} {Dl : Addr} {acc acc' : List Dv} {j : Nat} {v : V} {e : Dv} {b : Bool} {g : Dv} (hD : H1 Dl = none) (m : Ms K F M H1) (s : Sl K (ads M ++ F) H1 σ Γ) (re : Rp K (hid (ads M ++ F) H1) v e) (c : Lcs K F M H1 Dl acc H') (hz : acc.length ≤ 60000)
    (ht : EvT K (Dl :: F) M t (Γ.set j (some e)) b) (hg : b = true → EvD K (Dl :: F) M te (Γ.set j (some e)) g) (ha : acc' = if b then acc ++ [g] else acc) :
    t ((wipe σ [j]).set j (some v)) H' fun b H3 => if b = true then te ((wipe σ [j]).set j (some v)) H3 fun y H4 => ∃ acc, H4 Dl = some (.lst acc) ∧ acc.length < sizeLine ∧ Lcs K F M H1 Dl acc' (upd H4 Dl (.lst (acc ++ [y]))) else Lcs K F M H1 Dl acc' H3 := by
  have m' := c.ms hD m
  have s' : Sl K (ads M ++ Dl :: F) H' ((wipe σ [j]).set j (some v)) (Γ.set j (some e)) := (s.keep (c.keep hD)).own (re.mono (c.keep hD))
  refine ht _ H' m' s' _ fun H3 e3 => ?_
  obtain ⟨xs, hx, rx⟩ := c.l
  cases b with
  | true =>
    refine iteT (hg rfl _ H3 (m'.mono e3) (s'.mono e3) _ fun y H4 e4 r4 => ?_)
    have e34 := e3.trans e4
    refine ⟨xs, e34 _ _ hx, sz_lt (by rw [rx.len]; omega), ?_⟩
    have hk : Same (hid (Dl :: (ads M ++ F)) H4) (hid (Dl :: (ads M ++ F)) (upd H4 Dl (.lst (xs ++ [y])))) := fun a o q => by
      obtain ⟨n, z⟩ := hid_some q
      rw [hid_out n, upd_ne (fun w => n (by rw [w]; exact List.mem_cons_self ..))]
      exact z
    refine ⟨fun a o q => ?_, xs ++ [y], upd_same, ?_⟩
    · rw [upd_ne (ne_of_none q hD)]
      exact e34 _ _ (c.e a o q)
    · subst ha
      rw [swap_hid (l := [])] at r4
      exact ((rx.mono (hid_same e34)).mono hk).app (.cons (r4.mono hk) .nil)
  | false =>
    subst ha
    exact iteF ⟨c.e.trans e3, xs, e3 _ _ hx, rx.mono (hid_same e3)⟩
theorem take_step {ds : List Dv} {i : Nat} {e : Dv} (f : Dv → Bool) (g : Dv → Dv) (h : ds[i]? = some e) : ((ds.take (i + 1)).filter f).map g = if f e then ((ds.take i).filter f).map g ++ [g e] else ((ds.take i).filter f).map g := by
  obtain ⟨hi, he⟩ := List.getElem?_eq_some_iff.mp h
  rw [List.take_succ, h, Option.toList_some, List.filter_append, List.map_append]
  cases hf : f e with
  | true => simp [hf]
  | false => simp [hf]
theorem en_lcL {j : Nat} {ds : List Dv} (f : Dv → Bool) (g : Dv → Dv) (h : EvD K F M tl Γ d) (hd : d = .lst ds ∨ d = .sql ds) (hz : ds.length ≤ 60000)
    (ht : ∀ (i : Nat) e, ds[i]? = some e → ∀ Dl, EvT K (Dl :: F) M t (Γ.set j (some e)) (f e)) (hg : ∀ (i : Nat) e, ds[i]? = some e → f e = true → ∀ Dl, EvD K (Dl :: F) M te (Γ.set j (some e)) (g e)) :
    EvN K F M (tLc (iList K tl) (gName j) t te [j]) Γ ((ds.filter f).map g) := fun σ H m s Q q => h σ H m s _ fun v H1 e1 r1 => by
  obtain ⟨a, xs, rfl, hq, rx⟩ : ∃ a xs, v = .ref a ∧ SqL K (hid (ads M ++ F) H1) a xs ∧ RpL K (hid (ads M ++ F) H1) xs ds := by
    rcases hd with rfl | rfl
    · cases r1 with
      | lst h r => exact ⟨_, _, rfl, .inl (.inl h), r⟩
    · cases r1 with
      | sql h r => exact ⟨_, _, rfl, h, r⟩
  have m1 := m.mono e1
  have s1 := s.mono e1
  refine ⟨a, rfl, ⟨xs, (hid_sub _ _).seq hq⟩, fun Dl hD => ?_⟩
  refine lc_list (xs := xs) (fun i => Lcs K F M H1 Dl (((ds.take i).filter f).map g)) ⟨same_new hD, [], upd_same, .nil⟩ (fun i H' _ c => c.e.seq ((hid_sub _ _).seq hq)) (fun i x H' hx c => ?_) fun H' c => ?_
  · obtain ⟨e, he, re⟩ := rx.getV hx
    refine ⟨wipe_one σ j x, c.turn hD m1 s1 re ?_ (ht i e he Dl) (fun hb => hg i e he hb Dl) (take_step f g he)⟩
    have := (List.getElem?_eq_some_iff.mp he).1
    have h1 := List.length_filter_le f (ds.take i)
    rw [List.length_map]
    rw [List.length_take] at h1
    omega
  · rw [rx.len, List.take_length] at c
    obtain ⟨ys, hy, ry⟩ := c.l
    exact q Dl H' ys (none_back e1 hD) (e1.trans c.e) hy ry
theorem en_lcR {j : Nat} {n : Int} {tA : TA} (g : Nat → Dv) (h : EvA K F M tA Γ [.int n]) (hz : n ≤ 60000) (hz' : -100000 ≤ n)
    (hg : ∀ (i : Nat), (i : Int) < n → ∀ Dl, EvD K (Dl :: F) M te (Γ.set j (some (.int i))) (g i)) :
    EvN K F M (tLc (iRng1 tA) (gName j) tYes te [j]) Γ ((List.range n.toNat).map g) := fun σ H m s Q q => h σ H m s _ fun vs H1 e1 r1 => by
  cases r1 with
  | cons r1 r2 =>
  cases r2
  cases r1
  have m1 := m.mono e1
  have s1 := s.mono e1
  refine ⟨n, rfl, by omega, by omega, fun Dl hD => ?_⟩
  refine lc_range (lo := 0) (n := n.toNat) (fun i => Lcs K F M H1 Dl ((List.range i).map g)) ⟨same_new hD, [], upd_same, .nil⟩ (fun i H' hx c => ?_) fun H' c => ?_
  · have e0 : (0 : Int) + (i : Int) = (i : Int) := Int.zero_add _
    rw [e0]
    refine ⟨wipe_one σ j _, c.turn hD m1 s1 (.int _) ?_ et_yes (fun _ => hg i (by omega) Dl) ?_⟩
    · rw [List.length_map, List.length_range]; omega
    · rw [List.range_succ, List.map_append]
      rfl
  · obtain ⟨ys, hy, ry⟩ := c.l
    exact q Dl H' ys (none_back e1 hD) (e1.trans c.e) hy ry
/-- list + list, as a new list -/
theorem en_addL {i j : List Dv} (ha : EvD K F M ta Γ (.lst i)) (hb : EvD K F M tb Γ (.lst j)) (h : i.length + j.length ≤ 100000) : EvN K F M (tOp (rAddG K) ta tb) Γ (i ++ j) := fun σ H m s Q q =>
  ha σ H m s _ fun v H1 e1 r1 => hb σ H1 (m.mono e1) (s.mono e1) _ fun w H2 e2 r2 => by
    have r1' := r1.mono (hid_same e2)
    cases r1' with
    | lst h1 r1 =>
    cases r2 with
    | lst h2 r2 =>
      have e12 := e1.trans e2
      exact .inr (.inr (.inl ⟨_, _, _, _, rfl, rfl, (hid_some h1).2, (hid_some h2).2, sz_of (by rw [r1.len, r2.len]; exact h), fun p hp => q p _ _ (none_back e12 hp) (e12.trans (same_new hp)) upd_same ((r1.app r2).mono (hid_new hp))⟩))
/-- return of a new list as something mutable -/
theorem wx_new {ds : List Dv} (h : EvN K F M te Γ ds) (k : ∀ p, p ∉ ads M ++ F → R (.adr p) ((p, .lst ds) :: M)) : WpX K Pm F te Γ M R := fun H0 σ H S Q q =>
  h σ H S.ms S.s _ fun p H1 xs hp e h1 r1 => by
    obtain ⟨S1, k1⟩ := S.newM hp e h1 r1
    exact q _ H1 _ _ (k p (S.ms.fresh hp)) S1 k1 (.adr p)
end
end Dw
namespace Dw
open PySem L2
def S_random : DS := fun ds M R => ∃ (ns : List Int) (s : Int), ds = [.sql (ns.map .int), .int s] ∧ M = [] ∧ ns.length ≤ 63 ∧ 0 ≤ s ∧ s < 2147483647 ∧ ∀ p l, Rnd l → R (.adr p) [(p, rl l)]
section
variable {K : PySem.W.Frag} {Pm F : List Addr} {M : Mu} {Γ : Ga} {ta tb te : TE} {R : Dv → Mu → Prop}
/-- a number drawn -/
theorem wx_below {E : XK} {r : Addr} {l : List Int} (i : Nat) (ha : EvD K F M ta Γ (.adr r)) (hb : WpX K Pm F tb Γ M fun d M' => ∃ n l', d = .int n ∧ M'[i]? = some (r, rl l') ∧ Rnd l' ∧ 0 < n ∧ n < 1073741824 ∧ ∀ k l2, 0 ≤ k → k < n → Rnd l2 → R (.int k) (M'.set i (r, rl l2))) :
    WpX K Pm F (tCall (spD K 2 S_below) [] E (tCons ta (tCons tb tNil))) Γ M R := by
  refine wx_call1 (wa_cons (wx_pure ha (wa_cons (wx_imp hb fun d M' h => wa_nil ?_))))
  obtain ⟨n, l', rfl, h1, h2, h3, h4, h5⟩ := h
  exact ⟨rfl, i, r, rl l', h1, r, l', n, rfl, rfl, h2, h3, h4, fun k l2 a b c => ⟨[], rl l2, rfl, h5 k l2 a b c⟩⟩
/-- .. below a number that is reckoned by what changes nothing -/
theorem wx_belowN {E : XK} {r : Addr} {l : List Int} {n : Int} (i : Nat) (ha : EvD K F M ta Γ (.adr r)) (hb : EvD K F M tb Γ (.int n)) (hi : M[i]? = some (r, rl l)) (hl : Rnd l) (h0 : 0 < n) (h1 : n < 1073741824) (k : ∀ k l2, 0 ≤ k → k < n → Rnd l2 → R (.int k) (M.set i (r, rl l2))) :
    WpX K Pm F (tCall (spD K 2 S_below) [] E (tCons ta (tCons tb tNil))) Γ M R := wx_below i ha (l := l) (wx_pure hb ⟨n, l, rfl, hi, hl, h0, h1, k⟩)
end
end Dw
namespace Dw
open PySem L2
mutual
def toPy : Dv → PyData
  | .non => .none
  | .bl b => .bool b
  | .int i => .int i
  | .str x => .str x
  | .lst xs => .list (toPyL xs)
  | .tup xs => .tuple (toPyL xs)
  | _ => .none
def toPyL : List Dv → List PyData
  | [] => []
  | x :: xs => toPy x :: toPyL xs
end
/-- plain data, n deep at most -/
def Pl : Nat → Dv → Prop
  | _, .non => True
  | _, .bl _ => True
  | _, .int _ => True
  | _, .str x => PyData.strOk x = true
  | n + 1, .lst xs => ∀ x ∈ xs, Pl n x
  | n + 1, .tup xs => ∀ x ∈ xs, Pl n x
  | _, _ => False
section
variable {K : PySem.W.Frag} {H : Hp}
mutual
theorem rp_dp : ∀ {n : Nat} {v : V} {d : Dv}, Pl n d → Rp K H v d → Dp K H v (toPy d)
  | _, _, _, _, .non => by simp only [toPy]; exact .non
  | _, _, _, _, .bl b => by simp only [toPy]; exact .bl b
  | _, _, _, _, .int b => by simp only [toPy]; exact .int b
  | _, _, _, _, .str b => by simp only [toPy]; exact .str b
  | 0, _, _, p, .lst h r => by exact absurd p (by simp [Pl])
  | n + 1, _, _, p, .lst h r => by
    simp only [toPy]
    exact .lst (.inl (.inl h)) (rpL_dp (by simpa [Pl] using p) r)
  | 0, _, _, p, .tup h r => by exact absurd p (by simp [Pl])
  | n + 1, _, _, p, .tup h r => by
    simp only [toPy]
    exact .tup h.1 (rpL_dp (by simpa [Pl] using p) r)
  | n, _, _, p, .ins h r => by cases n <;> exact absurd p (by simp [Pl])
  | n, _, _, p, .dic h r => by cases n <;> exact absurd p (by simp [Pl])
  | n, _, _, p, .sql h r => by cases n <;> exact absurd p (by simp [Pl])
  | n, _, _, p, .adr _ => by cases n <;> exact absurd p (by simp [Pl])
  | n, _, _, p, .stp h r => by cases n <;> exact absurd p (by simp [Pl])
theorem rpL_dp : ∀ {n : Nat} {v : List V} {d : List Dv}, (∀ x ∈ d, Pl n x) → RpL K H v d → DpAll K H v (toPyL d)
  | _, _, _, _, .nil => by simp only [toPyL]; exact .nil
  | _, _, _, p, .cons h r => by
    simp only [toPyL]
    exact .cons (rp_dp (p _ (List.mem_cons_self ..)) h) (rpL_dp (fun x hx => p x (List.mem_cons_of_mem _ hx)) r)
end
end
theorem pl_lay : ∀ (n : Nat) (d : Dv), Pl n d → (toPy d).canLay0 = true ∧ (toPy d).depth ≤ n := by
  intro n
  induction n with
  | zero =>
    intro d p
    cases d <;> first
      | (simp only [toPy, PyData.canLay0, PyData.depth]; exact ⟨by trivial, Nat.le_refl _⟩)
      | (simp only [toPy, PyData.canLay0, PyData.depth]; exact ⟨by simpa [Pl] using p, Nat.le_refl _⟩)
      | exact absurd p (by simp [Pl])
  | succ n ih =>
    have all : ∀ xs : List Dv, (∀ x ∈ xs, Pl n x) → PyData.canLayAll0 (toPyL xs) = true ∧ PyData.depthAll (toPyL xs) ≤ n := by
      intro xs
      induction xs with
      | nil => intro _; simp only [toPyL, PyData.canLayAll0, PyData.depthAll]; exact ⟨by trivial, Nat.zero_le _⟩
      | cons x xs ihx =>
        intro p
        obtain ⟨a, b⟩ := ih x (p _ (List.mem_cons_self ..))
        obtain ⟨a', b'⟩ := ihx fun y hy => p y (List.mem_cons_of_mem _ hy)
        simp only [toPyL, PyData.canLayAll0, PyData.depthAll]
        exact ⟨by rw [a, a']; rfl, Nat.max_le.mpr ⟨b, b'⟩⟩
    intro d p
    cases d with
    | lst xs =>
      obtain ⟨a, b⟩ := all xs (by simpa [Pl] using p)
      simp only [toPy, PyData.canLay0, PyData.depth]
      exact ⟨a, Nat.succ_le_succ b⟩
    | tup xs =>
      obtain ⟨a, b⟩ := all xs (by simpa [Pl] using p)
      simp only [toPy, PyData.canLay0, PyData.depth]
      exact ⟨a, Nat.succ_le_succ b⟩
    | str x => simp only [toPy, PyData.canLay0, PyData.depth]; exact ⟨by simpa [Pl] using p, Nat.zero_le _⟩
    | non => simp only [toPy, PyData.canLay0, PyData.depth]; exact ⟨by trivial, Nat.zero_le _⟩
    | bl b => simp only [toPy, PyData.canLay0, PyData.depth]; exact ⟨by trivial, Nat.zero_le _⟩
    | int b => simp only [toPy, PyData.canLay0, PyData.depth]; exact ⟨by trivial, Nat.zero_le _⟩
    | ins C fs => exact absurd p (by simp [Pl])
    | dic fs => exact absurd p (by simp [Pl])
    | sql fs => exact absurd p (by simp [Pl])
    | adr fs => exact absurd p (by simp [Pl])
    | stp fs => exact absurd p (by simp [Pl])
theorem pl_shaped {n : Nat} {d : Dv} (p : Pl n d) (hn : n ≤ 64) : SeqAt.shaped (toPy d) = true := by
  obtain ⟨a, b⟩ := pl_lay n d p
  unfold SeqAt.shaped
  rw [a, decide_eq_true (Nat.le_trans b hn)]
  rfl
section
variable {K : PySem.W.Frag} {Pm F : List Addr} {M : Mu} {Γ : Ga} {ta tb te tl : TE} {x y z d : Dv} {t u : TT} {R : Dv → Mu → Prop} {P : Po} {H0 H H' : Hp} {σ : L2.St} {ts : TS}
theorem od_neD {n : Nat} (hx : Pl n x) (hy : Pl n y) (hn : n ≤ 64) : OpD K F M (rNeG K) x y (.bl (!PyData.eqv (toPy x) (toPy y))) := fun v w H m r1 r2 Q q =>
  .inr ⟨_, _, rp_dp hx (r1.mono (hid_sub _ _)), rp_dp hy (r2.mono (hid_sub _ _)), pl_shaped hx hn, pl_shaped hy hn, q _ H (Same.refl H) (.bl _)⟩
theorem od_eqD {n : Nat} (hx : Pl n x) (hy : Pl n y) (hn : n ≤ 64) : OpD K F M (rEqG K) x y (.bl (PyData.eqv (toPy x) (toPy y))) := fun v w H m r1 r2 Q q =>
  .inr ⟨_, _, rp_dp hx (r1.mono (hid_sub _ _)), rp_dp hy (r2.mono (hid_sub _ _)), pl_shaped hx hn, pl_shaped hy hn, q _ H (Same.refl H) (.bl _)⟩
theorem eqv_nil (ds : List Dv) : PyData.eqv (toPy (.lst ds)) (toPy (.lst [])) = ds.isEmpty := by
  cases ds <;> simp [toPy, toPyL, PyData.eqv, PyData.eqvAll]
theorem od_ne0 {n : Nat} {ds : List Dv} (hx : ∀ e ∈ ds, Pl n e) (hn : n + 1 ≤ 64) : OpD K F M (rNeG K) (.lst ds) (.lst []) (.bl (!ds.isEmpty)) := by
  have := od_neD (K := K) (F := F) (M := M) (n := n + 1) (x := .lst ds) (y := .lst []) hx (by simp [Pl]) hn
  rwa [eqv_nil] at this
theorem od_eq0 {n : Nat} {ds : List Dv} (hx : ∀ e ∈ ds, Pl n e) (hn : n + 1 ≤ 64) : OpD K F M (rEqG K) (.lst ds) (.lst []) (.bl ds.isEmpty) := by
  have := od_eqD (K := K) (F := F) (M := M) (n := n + 1) (x := .lst ds) (y := .lst []) hx (by simp [Pl]) hn
  rwa [eqv_nil] at this
/-- a mutable list read as data -/
theorem mu_lst {p : Addr} {i : Nat} {ds : List Dv} (m : Ms K F M H) (hi : M[i]? = some (p, .lst ds)) : Rp K H (.ref p) (.lst ds) := by
  obtain ⟨xs, hx, rx⟩ := m.ok _ (List.mem_of_getElem? hi)
  exact .lst hx (rx.mono (hid_sub _ _))
theorem od_neM0 {n : Nat} {p : Addr} (i : Nat) {ds : List Dv} (hi : M[i]? = some (p, .lst ds)) (hx : ∀ e ∈ ds, Pl n e) (hn : n + 1 ≤ 64) : OpD K F M (rNeG K) (.adr p) (.lst []) (.bl (!ds.isEmpty)) := fun v w H m r1 r2 Q q => by
  cases r1
  have hp : Pl (n + 1) (.lst ds) := hx
  have h0 : Pl (n + 1) (.lst []) := by simp [Pl]
  refine .inr ⟨_, _, rp_dp hp (mu_lst m hi), rp_dp h0 (r2.mono (hid_sub _ _)), pl_shaped hp hn, pl_shaped h0 hn, ?_⟩
  rw [eqv_nil]
  exact q _ H (Same.refl H) (.bl _)

/-! slices -/
def rSlG (K : PySem.W.Frag) : V → Option Int → Option Int → Hp → VK → Prop := fun x lo hi H Q => rSlL K x lo hi H Q ∨ rSlF K x lo hi H Q ∨ rSlS x lo hi H Q
theorem sl_G {X : Cx} (hK : X.K = K) : SlR X (rSlG K) := hK ▸ sl_list.or (sl_tupF.or sl_str)
def cutD (xs : List Dv) (lo hi : Option Int) : List Dv := (xs.drop (HT.sIx xs.length 0 lo)).take (HT.sIx xs.length xs.length hi - HT.sIx xs.length 0 lo)
theorem RpL.cut {xs : List V} {ds : List Dv} (r : RpL K H xs ds) (lo hi : Option Int) : RpL K H (cutV xs lo hi) (cutD ds lo hi) := by
  unfold cutV cutD
  rw [r.len]
  exact (r.drop _).take _
theorem eo_none : EvO K F M tNoPart Γ none := fun σ H m s Q q => q H (Same.refl H)
theorem eo_some {i : Int} (h : EvD K F M te Γ (.int i)) : EvO K F M (tPart te) Γ (some i) := fun σ H m s Q q => h σ H m s _ fun v H1 e1 r1 => by
  cases r1
  exact ⟨i, rfl, q H1 e1⟩
theorem en_slL {ds : List Dv} {to th : TO} {lo hi : Option Int} (h : EvD K F M te Γ (.lst ds)) (hl : EvO K F M to Γ lo) (hh : EvO K F M th Γ hi) : EvN K F M (tSl (rSlG K) te to th) Γ (cutD ds lo hi) := fun σ H m s Q q =>
  h σ H m s _ fun v H1 e1 r1 => hl σ H1 (m.mono e1) (s.mono e1) _ fun H2 e2 => hh σ H2 ((m.mono e1).mono e2) ((s.mono e1).mono e2) _ fun H3 e3 => by
    have r3 := r1.mono (hid_same (e2.trans e3))
    cases r3 with
    | lst h3 r3 =>
      have e13 := (e1.trans e2).trans e3
      exact .inl ⟨_, _, rfl, .inl (.inl (hid_some h3).2), fun p hp => q p _ _ (none_back e13 hp) (e13.trans (same_new hp)) upd_same ((r3.cut lo hi).mono (hid_new hp))⟩
theorem ed_slT {ds : List Dv} {to th : TO} {lo hi : Option Int} (h : EvD K F M te Γ (.tup ds)) (hl : EvO K F M to Γ lo) (hh : EvO K F M th Γ hi) : EvD K F M (tSl (rSlG K) te to th) Γ (.tup (cutD ds lo hi)) := fun σ H m s Q q =>
  h σ H m s _ fun v H1 e1 r1 => hl σ H1 (m.mono e1) (s.mono e1) _ fun H2 e2 => hh σ H2 ((m.mono e1).mono e2) ((s.mono e1).mono e2) _ fun H3 e3 => by
    have m3 := ((m.mono e1).mono e2).mono e3
    have r3 := r1.mono (hid_same (e2.trans e3))
    cases r3 with
    | tup h3 r3 =>
      have e13 := (e1.trans e2).trans e3
      refine .inr (.inl ⟨_, _, rfl, sqT_hid h3.1, fun hw => ?_, fun hw p hp o z => q _ _ (e13.trans (same_new hp)) (m3.newT hp z (r3.cut lo hi))⟩)
      have : cutD ds lo hi = ds := by
        have hl := r3.len
        unfold cutD
        rw [← hl, hw.1, hw.2, List.drop_zero, Nat.sub_zero, hl, List.take_length]
      rw [this] at q
      exact q _ H3 e13 (.tup h3 r3)
theorem ed_slS {s : Str} {to th : TO} {lo hi : Option Int} (hz : s.length ≤ 1000000) (h : EvD K F M te Γ (.str s)) (hl : EvO K F M to Γ lo) (hh : EvO K F M th Γ hi) : EvD K F M (tSl (rSlG K) te to th) Γ (.str (cutS s lo hi)) := fun σ H m s Q q =>
  h σ H m s _ fun v H1 e1 r1 => hl σ H1 (m.mono e1) (s.mono e1) _ fun H2 e2 => hh σ H2 ((m.mono e1).mono e2) ((s.mono e1).mono e2) _ fun H3 e3 => by
    cases r1
    exact .inr (.inr ⟨_, rfl, Nat.le_trans hz (by decide), q _ H3 ((e1.trans e2).trans e3) (.str _)⟩)
/-- a slice, then the rest, where parts may draw -/
theorem wx_slL {to th : TO} {lo hi : Option Int} (h : WpX K Pm F te Γ M fun d M' => ∃ ds, d = .lst ds ∧ EvO K F M' to Γ lo ∧ EvO K F M' th Γ hi ∧ R (.lst (cutD ds lo hi)) M') : WpX K Pm F (tSl (rSlG K) te to th) Γ M R := fun H0 σ H S Q q =>
  h H0 σ H S _ fun v H1 d M1 ⟨ds, e, hl, hh, hR⟩ S1 k1 r1 => by
    subst e
    refine hl σ H1 S1.ms S1.s _ fun H2 e2 => hh σ H2 (S1.mono e2).ms (S1.mono e2).s _ fun H3 e3 => ?_
    have r3 := r1.mono (hid_same (e2.trans e3))
    have S3 := (S1.mono e2).mono e3
    cases r3 with
    | lst h3 r3 =>
      exact .inl ⟨_, _, rfl, .inl (.inl (hid_some h3).2), fun p hp => q _ _ _ M1 hR (S3.mono (same_new hp)) (k1.trans (Kp.of ((e2.trans e3).trans (same_new hp)))) (S3.ms.newL hp (r3.cut lo hi))⟩
end
end Dw
namespace Dw
open PySem L2
section
variable {K : PySem.W.Frag} {Pm F : List Addr} {M : Mu} {Γ : Ga} {ta tb te tl : TE} {x y z d : Dv} {t u : TT} {R : Dv → Mu → Prop} {P : Po} {H0 H H' : Hp} {σ : L2.St} {ts : TS}
theorem Stt.drp {q : Addr × Mv} (S : Stt K Pm F (q :: M) H0 H σ Γ) : Stt K Pm F M H0 H σ Γ ∧ Kp F (q :: M) H M H := by
  have hk : Same (hid (ads (q :: M) ++ F) H) (hid (ads M ++ F) H) := fun a o z => by
    obtain ⟨n, w⟩ := hid_some z
    have n' : a ∉ ads M ++ F := fun m => n (List.mem_cons_of_mem _ m)
    rw [hid_out n']
    exact w
  have nd := List.nodup_cons.mp S.ms.nd
  exact ⟨⟨S.fr, fun q hq => S.loc q (List.mem_cons_of_mem _ hq), ⟨fun q hq => (S.ms.ok q (List.mem_cons_of_mem _ hq)).keep hk fun o e => e, nd.2, S.ms.ff, fun a ha hm => S.ms.ap a ha (List.mem_cons_of_mem _ hm)⟩, S.s.keep hk⟩, hk⟩
theorem wx_drp (h : WpX K Pm F te Γ M fun d M' => ∃ q M1, M' = q :: M1 ∧ R d M1) : WpX K Pm F te Γ M R := fun H0 σ H S Q q =>
  h H0 σ H S _ fun v H1 d M1 ⟨p, M2, e2, hR⟩ S1 k1 r1 => by
    subst e2
    obtain ⟨S2, k2⟩ := S1.drp
    exact q _ H1 _ _ hR S2 (k1.trans k2) (r1.mono k2)
end
def S_shuffled : DS := fun ds M R => ∃ r l xs n, ds = [.adr r, .lst xs] ∧ M = [(r, rl l)] ∧ Rnd l ∧ xs.length ≤ 100 ∧ (∀ x ∈ xs, Pl n x) ∧ n + 1 ≤ 64 ∧ ∀ ys l', ys.Perm xs → Rnd l' → R (.lst ys) [(r, rl l')]

inductive Ac where
  | add (r n : Nat) | copy (r s : Nat) | swap (r s : Nat) | emr (r : Nat) | emn (n : Nat)
  deriving DecidableEq
inductive Pu where
  | num (n : Nat) | reg (r : Nat) | cho (r m n : Nat)
  deriving DecidableEq
structure Cd where
  nm : Str
  ac : List Ac
  pu : Pu
structure Dk where
  w : Nat
  cs : List Cd
def eA : Ac → Dv
  | .add r n => .tup [.str "add", .int r, .int n]
  | .copy r s => .tup [.str "copy", .int r, .int s]
  | .swap r s => .tup [.str "swap", .int r, .int s]
  | .emr r => .tup [.str "emit", .int r, .int 0]
  | .emn n => .tup [.str "emit", .non, .int n]
def eP : Pu → Dv
  | .num n => .tup [.non, .int n, .int n]
  | .reg r => .tup [.int r, .int 0, .non]
  | .cho r m n => .tup [.int r, .int m, .int n]
def eC (c : Cd) : Dv := .tup [.str c.nm, .lst (c.ac.map eA), eP c.pu]
def eD (d : Dk) : Dv := .tup [.int d.w, .lst (d.cs.map eC)]
def Ac.ok (w : Nat) : Ac → Prop
  | .add r n => r < 4 ∧ n < w
  | .copy r s => r < 4 ∧ s < 4
  | .swap r s => r < 4 ∧ s < 4
  | .emr r => r < 4
  | .emn n => n < w
def Pu.ok : Pu → Prop
  | .num n => n ≤ 9
  | .reg r => r < 4
  | .cho r m n => r < 4 ∧ m ≤ 9 ∧ n ≤ 9
def names8 : List Str := ["a", "b", "cc", "longname", "x", "y", "zed", "pq"]
/-- all names that cards have -/
def namesA : List Str := ["a", "b", "cc", "longname", "x", "y", "zed", "pq", "c", "new", "o", "mm", "u", "abcdefgh", "vv"]
theorem names8_A : ∀ s ∈ names8, s ∈ namesA := by decide +kernel
structure Cd.okN (N w : Nat) (c : Cd) : Prop where
  nm : c.nm ∈ namesA
  len : c.ac.length ≤ N
  ac : ∀ a ∈ c.ac, a.ok w
  pu : c.pu.ok
abbrev Cd.ok (w : Nat) (c : Cd) : Prop := Cd.okN 6 w c
/-- a deck whose cards have N actions at most -/
structure Dk.okN (N : Nat) (d : Dk) : Prop where
  lo : 2 ≤ d.w
  hi : d.w ≤ 16
  ne : 1 ≤ d.cs.length
  le : d.cs.length ≤ 8
  cs : ∀ c ∈ d.cs, Cd.okN N d.w c
  nd : (d.cs.map (·.nm)).Nodup
abbrev Dk.ok (d : Dk) : Prop := Dk.okN 6 d
theorem Cd.okN.up {w : Nat} {c : Cd} (h : Cd.okN 6 w c) : Cd.okN 7 w c := ⟨h.nm, Nat.le_succ_of_le h.len, h.ac, h.pu⟩
theorem Dk.okN.up {d : Dk} (h : Dk.okN 6 d) : Dk.okN 7 d := ⟨h.lo, h.hi, h.ne, h.le, fun c hc => (h.cs c hc).up, h.nd⟩
/-- the names of the decks that are drawn -/
def names9 : List Str := ["a", "b", "cc", "longname", "x", "y", "zed", "pq", "c"]
structure DkS (D : Dk) (m : Nat) : Prop where
  le : D.cs.length ≤ m
  nm : ∀ c ∈ D.cs, c.nm ∈ names9
def S_action : DS := fun ds M R => ∃ r l w, ds = [.adr r, .int (w : Nat)] ∧ M = [(r, rl l)] ∧ Rnd l ∧ 2 ≤ w ∧ w ≤ 16 ∧ ∀ a l', Ac.ok w a → Rnd l' → R (eA a) [(r, rl l')]
def S_put : DS := fun ds M R => ∃ r l m, ds = [.adr r, .int (m : Nat)] ∧ M = [(r, rl l)] ∧ Rnd l ∧ 1 ≤ m ∧ m ≤ 8 ∧ ∀ a l', Pu.ok a → Rnd l' → R (eP a) [(r, rl l')]
def S_deck : DS := fun ds M R => ∃ r l m, ds = [.adr r, .int (m : Nat)] ∧ M = [(r, rl l)] ∧ Rnd l ∧ 1 ≤ m ∧ m ≤ 8 ∧ ∀ D l', Dk.ok D → DkS D m → Rnd l' → R (eD D) [(r, rl l')]
theorem nat_of {k : Int} (h : 0 ≤ k) : ∃ n : Nat, k = (n : Int) := Int.eq_ofNat_of_zero_le h
section
variable {K : PySem.W.Frag} {Pm F : List Addr} {M : Mu} {Γ : Ga} {ta tb te tl : TE} {x y z d : Dv} {t u : TT} {R : Dv → Mu → Prop}
/-- an item of a list, drawn -/
theorem wx_pick {E : XK} {r : Addr} {l : List Int} {ds : List Dv} {n : Int} (i : Nat) (hL : EvD K F M tl Γ (.lst ds)) (ha : EvD K F M ta Γ (.adr r)) (hb : EvD K F M tb Γ (.int n)) (hn : n = (ds.length : Int)) (hi : M[i]? = some (r, rl l)) (hl : Rnd l) (h0 : 0 < ds.length) (h1 : ds.length ≤ 1000)
    (k : ∀ (j : Nat) e l2, ds[j]? = some e → Rnd l2 → R e (M.set i (r, rl l2))) : WpX K Pm F (tOp (rIxG K) tl (tCall (spD K 2 S_below) [] E (tCons ta (tCons tb tNil)))) Γ M R := by
  refine wx_op (wx_pure hL (wx_belowN i ha hb hi hl (by omega) (by omega) fun j l2 a b c => ?_))
  obtain ⟨j, rfl⟩ := nat_of a
  have hj : j < ds.length := by omega
  exact ⟨ds[j], od_ixL (by simp [hj]), k j _ l2 (by simp [hj]) c⟩
theorem two_of {α : Type} {x y e : α} {j : Nat} (h : [x, y][j]? = some e) : e = x ∨ e = y := by
  match j, h with
  | 0, h => cases h; exact .inl rfl
  | 1, h => cases h; exact .inr rfl
  | _ + 2, h => simp at h
theorem three_of {α : Type} {x y z e : α} {j : Nat} (h : [x, y, z][j]? = some e) : e = x ∨ e = y ∨ e = z := by
  match j, h with
  | 0, h => cases h; exact .inl rfl
  | 1, h => cases h; exact .inr (.inl rfl)
  | 2, h => cases h; exact .inr (.inr rfl)
  | _ + 3, h => simp at h
/-- a register's number: below(d, [2, 4][below(d, 2)]) -/
theorem wx_slot {E E' : XK} {r : Addr} {l : List Int} (i : Nat) (ha : ∀ M, EvD K F M ta Γ (.adr r)) (hi : M[i]? = some (r, rl l)) (hl : Rnd l) (k : ∀ (j : Nat) l2, j < 4 → Rnd l2 → R (.int j) (M.set i (r, rl l2))) :
    WpX K Pm F (tCall (spD K 2 S_below) [] E (tCons ta (tCons (tOp (rIxG K) (tLst (tCons (tC (.int 2)) (tCons (tC (.int 4)) tNil))) (tCall (spD K 2 S_below) [] E' (tCons ta (tCons (tC (.int 2)) tNil)))) tNil))) Γ M R := by
  refine wx_below (l := l) i (ha _) (wx_pick i (ds := [.int 2, .int 4]) (ed_lst (ea_cons ed_int (ea_cons ed_int ea_nil)) (by decide)) (ha _) ed_int rfl hi hl (by decide) (by decide) fun j e l2 hj hl2 => ?_)
  have hlt : i < M.length := (List.getElem?_eq_some_iff.mp hi).1
  have main : ∀ n : Int, n = 2 ∨ n = 4 → ∃ n' l', Dv.int n = .int n' ∧ (M.set i (r, rl l2))[i]? = some (r, rl l') ∧ Rnd l' ∧ 0 < n' ∧ n' < 1073741824 ∧ ∀ k l3, 0 ≤ k → k < n' → Rnd l3 → R (.int k) ((M.set i (r, rl l2)).set i (r, rl l3)) := fun n hn => by
    refine ⟨n, l2, rfl, by rw [List.getElem?_set_self hlt], hl2, by omega, by omega, fun k' l3 a b c => ?_⟩
    obtain ⟨k', rfl⟩ := nat_of a
    rw [List.set_set]
    exact k k' l3 (by omega) c
  rcases two_of hj with e | e
  · rw [e]; exact main 2 (.inl rfl)
  · rw [e]; exact main 4 (.inr rfl)
end
def unS : Dv → Str
  | .str s => s
  | _ => ⟨#[]⟩
theorem perm_strs {ys : List Dv} {ns : List Str} (h : ys.Perm (ns.map Dv.str)) : ∃ ms : List Str, ys = ms.map Dv.str ∧ ms.Perm ns := by
  refine ⟨ys.map unS, ?_, ?_⟩
  · rw [List.map_map]
    have : ∀ y ∈ ys, (Dv.str ∘ unS) y = y := fun y hy => by
      obtain ⟨s, _, rfl⟩ := List.mem_map.mp (h.mem_iff.mp hy)
      rfl
    rw [List.map_congr_left this, List.map_id']
  · have := h.map unS
    rw [List.map_map] at this
    have e : (ns.map (unS ∘ Dv.str)) = ns := by
      have : ∀ y ∈ ns, (unS ∘ Dv.str) y = y := fun y _ => rfl
      rw [List.map_congr_left this, List.map_id']
    rw [e] at this
    exact this
theorem cut_take (xs : List Dv) (n : Nat) : cutD xs none (some (n : Int)) = xs.take n := by
  unfold cutD
  rw [HT.sIx_none, HT.sIx_nat, List.drop_zero, Nat.sub_zero]
  rw [Nat.min_def]
  split
  · rfl
  · rw [List.take_length, List.take_of_length_le (by omega)]
theorem cut_drop (xs : List Dv) (n : Nat) : cutD xs (some (n : Int)) none = xs.drop n := by
  unfold cutD
  rw [HT.sIx_none, HT.sIx_nat]
  have : xs.drop (min n xs.length) = xs.drop n := by
    rw [Nat.min_def]
    split
    · rfl
    · rw [List.drop_of_length_le (by omega), List.drop_of_length_le (by omega)]
  rw [this]
  exact List.take_of_length_le (by rw [List.length_drop]; omega)
end Dw
namespace Dw
open PySem L2
section
variable {K : PySem.W.Frag} {Pm F : List Addr} {M : Mu} {Γ : Ga} {ta tb te tl : TE} {x y z d : Dv} {t u : TT} {R : Dv → Mu → Prop}
/-- below(d, [a, b][below(d, 2)]) -/
theorem wx_below2 {E E' : XK} {r : Addr} {l : List Int} {a b n : Nat} (ha0 : 1 ≤ a) (ha1 : a ≤ n) (hb0 : 1 ≤ b) (hb1 : b ≤ n) (hn : n ≤ 1000) (i : Nat) (ha : ∀ M, EvD K F M ta Γ (.adr r)) (hi : M[i]? = some (r, rl l)) (hl : Rnd l) (k : ∀ (j : Nat) l2, j < n → Rnd l2 → R (.int j) (M.set i (r, rl l2))) :
    WpX K Pm F (tCall (spD K 2 S_below) [] E (tCons ta (tCons (tOp (rIxG K) (tLst (tCons (tC (.int a)) (tCons (tC (.int b)) tNil))) (tCall (spD K 2 S_below) [] E' (tCons ta (tCons (tC (.int 2)) tNil)))) tNil))) Γ M R := by
  refine wx_below (l := l) i (ha _) (wx_pick i (ds := [.int a, .int b]) (ed_lst (ea_cons ed_int (ea_cons ed_int ea_nil)) (Nat.le_of_ble_eq_true rfl)) (ha _) ed_int rfl hi hl (by simp) (by simp) fun j e l2 hj hl2 => ?_)
  have hlt : i < M.length := (List.getElem?_eq_some_iff.mp hi).1
  have main : ∀ m : Nat, 1 ≤ m → m ≤ n → ∃ n' l', Dv.int m = .int n' ∧ (M.set i (r, rl l2))[i]? = some (r, rl l') ∧ Rnd l' ∧ 0 < n' ∧ n' < 1073741824 ∧ ∀ k l3, 0 ≤ k → k < n' → Rnd l3 → R (.int k) ((M.set i (r, rl l2)).set i (r, rl l3)) := fun m h0 h1 => by
    refine ⟨m, l2, rfl, by rw [List.getElem?_set_self hlt], hl2, by omega, by omega, fun k' l3 a b c => ?_⟩
    obtain ⟨k', rfl⟩ := nat_of a
    rw [List.set_set]
    exact k k' l3 (by omega) c
  rcases two_of hj with e | e
  · rw [e]; exact main a ha0 ha1
  · rw [e]; exact main b hb0 hb1
theorem wx_slot7 {E E' : XK} {r : Addr} {l : List Int} (i : Nat) (ha : ∀ M, EvD K F M ta Γ (.adr r)) (hi : M[i]? = some (r, rl l)) (hl : Rnd l) (k : ∀ (j : Nat) l2, j < 7 → Rnd l2 → R (.int j) (M.set i (r, rl l2))) :
    WpX K Pm F (tCall (spD K 2 S_below) [] E (tCons ta (tCons (tOp (rIxG K) (tLst (tCons (tC (.int 3)) (tCons (tC (.int 7)) tNil))) (tCall (spD K 2 S_below) [] E' (tCons ta (tCons (tC (.int 2)) tNil)))) tNil))) Γ M R :=
  wx_below2 (a := 3) (b := 7) (n := 7) (by decide) (by decide) (by decide) (by decide) (by decide) i ha hi hl k
end
end Dw
namespace Dw
open PySem L2 TL
/-- a text by its signs -/
def mk (l : List Nat) : Str := ⟨l.toArray⟩
theorem tl_mk' (l : List Nat) : tl (mk l) = l := rfl
theorem mk_tl' (x : Str) : mk (tl x) = x := ext_tl rfl
theorem mk_app (a b : List Nat) : mk a ++ mk b = mk (a ++ b) := ext_tl (by rw [tl_append]; rfl)
theorem mk_len (a : List Nat) : (mk a).length = a.length := by rw [len_tl]; rfl
theorem mk_inj {a b : List Nat} (h : mk a = mk b) : a = b := congrArg tl h
def num (n : Nat) : Str := Str.ofString (toString ((n : Nat) : Int))
theorem tl_num' (n : Nat) : tl (num n) = numL n := tl_num n
theorem num_mk (n : Nat) : num n = mk (numL n) := ext_tl (tl_num n)
theorem slen_app (x y : Str) : (x ++ y).length = x.length + y.length := by
  rw [len_tl, len_tl, len_tl, tl_append, List.length_append]
section
variable {K : PySem.W.Frag} {Pm F : List Addr} {M : Mu} {Γ : Ga} {ta tb te tl' to : TE} {x y z d : Dv} {t u : TT} {R : Dv → Mu → Prop} {H H' : Hp} {σ : L2.St}
def rStrG : List V → Hp → VK → Prop := fun xs H Q => ∃ i : Int, xs = [.int i] ∧ i.natAbs.log2 < 1920 ∧ Q (.str (toString i)) H
theorem call_strG {X : Cx} : CallR X (.type "str") rStrG := call_str_int
theorem cd_str {n : Nat} (h : n < 1000000) : CaD K F M rStrG [.int n] (.str (num n)) := fun vs H m r Q q => by
  cases r with
  | cons r1 r2 =>
  cases r2
  cases r1
  refine ⟨n, rfl, ?_, q _ H (Same.refl H) (.str _)⟩
  show Nat.log2 n < 1920
  by_cases h0 : n = 0
  · subst h0; decide
  · have : n < 2 ^ 1920 := Nat.lt_of_lt_of_le h (by decide +kernel)
    exact (Nat.log2_lt h0).mpr this
def rIntG : List V → Hp → VK → Prop := fun xs H Q => ((∃ i, xs = [.int i] ∧ Q (.int i) H) ∨ ∃ k, xs = [.bl k] ∧ Q (.int (if k then 1 else 0)) H) ∨ ∃ a n, xs = [.str a] ∧ PySem.intText? a = some n ∧ a.length ≤ 640 ∧ Q (.int n) H
theorem call_intG {X : Cx} : CallR X (.type "int") rIntG := call_int1.or call_int_str
theorem cd_intB {k : Bool} : CaD K F M rIntG [.bl k] (.int (if k then 1 else 0)) := fun vs H m r Q q => by
  cases r with
  | cons r1 r2 =>
  cases r2
  cases r1
  exact .inl (.inr ⟨k, rfl, q _ H (Same.refl H) (.int _)⟩)
theorem cd_intS {a : Str} {n : Int} (h : PySem.intText? a = some n) (hl : a.length ≤ 640) : CaD K F M rIntG [.str a] (.int n) := fun vs H m r Q q => by
  cases r with
  | cons r1 r2 =>
  cases r2
  cases r1
  exact .inr ⟨a, n, rfl, h, hl, q _ H (Same.refl H) (.int _)⟩
/-- * -/
def rMulS : R2 := fun x y H Q => ∃ a n, x = .str a ∧ y = .int n ∧ MulOk a n ∧ Q (.str (Txt.mul a n)) H
theorem op_mulS {X : Cx} : OpR X (binaryOp .Mult) rMulS := by
  intro pins s σ H x y v u Q I rx ry h
  obtain ⟨a, n, rfl, rfl, ho, q⟩ := h
  obtain ⟨t, rfl⟩ := rx
  obtain ⟨t', rfl⟩ := ry
  exact SB.mul ho fun t' k => ⟨.str _, H, I.tok k, ⟨t', rfl⟩, q⟩
def rMulG (K : PySem.W.Frag) : R2 := fun x y H Q => rMulI x y H Q ∨ rMulS x y H Q ∨ rRepF K x y H Q
theorem op_mulGG {X : Cx} (hK : X.K = K) : OpR X (binaryOp .Mult) (rMulG K) := hK ▸ op_mulG.or (op_mulS.or op_repF)
theorem od_mulI {i j : Int} (h : CMul i j) : OpD K F M (rMulG K) (.int i) (.int j) (.int (i * j)) := fun v w H m r1 r2 Q q => .inl (od_mul h v w H m r1 r2 Q q)
theorem od_mulS {a : Str} {n : Int} (h : MulOk a n) : OpD K F M (rMulG K) (.str a) (.int n) (.str (Txt.mul a n)) := fun v w H m r1 r2 Q q => by
  cases r1; cases r2
  exact .inr (.inl ⟨a, n, rfl, rfl, h, q _ H (Same.refl H) (.str _)⟩)
theorem od_mulT {ds : List Dv} {n : Nat} (h0 : ds ≠ []) (h1 : 2 ≤ n) (h2 : n ≤ 1000) (h3 : ds.length ≤ 1000) : OpD K F M (rMulG K) (.tup ds) (.int n) (.tup (List.replicate n ds).flatten) := fun v w H m r1 r2 Q q => by
  cases r2
  cases r1 with
  | tup h1' r1 =>
    refine .inr (.inr ⟨_, _, _, rfl, rfl, sqT_hid h1'.1, fun e => ?_, by omega, by omega, by rw [r1.len]; exact h3, fun p hp o z => q _ _ (same_new hp) (m.newT hp z ?_)⟩)
    · subst e; cases r1; exact h0 rfl
    · show RpL K _ (List.replicate (n : Int).toNat _).flatten _
      have : ∀ k : Nat, RpL K (hid (ads M ++ F) H) (List.replicate k _).flatten (List.replicate k ds).flatten := fun k => by
        induction k with
        | zero => exact .nil
        | succ k ih =>
          rw [List.replicate_succ, List.replicate_succ, List.flatten_cons, List.flatten_cons]
          exact r1.app ih
      exact this n
theorem mul_01 {a : Str} (ha : a.length ≤ 1000) (k : Bool) : MulOk a (if k then 1 else 0) ∧ Txt.mul a (if k then 1 else 0) = if k then a else mk [] := by
  cases k with
  | true =>
    refine ⟨⟨by decide, fun _ h => absurd h (by simp), fun _ h => absurd h (by simp)⟩, ?_⟩
    unfold Txt.mul
    simp
  | false =>
    refine ⟨⟨by decide, fun h => absurd h (by decide), fun h => absurd h (by decide)⟩, ?_⟩
    unfold Txt.mul
    simp
    rfl
/-- a built-in's method -/
def MtD (K : PySem.W.Frag) (F : List Addr) (M : Mu) (r : V → List V → Hp → VK → Prop) (x : Dv) (xs : List Dv) (z : Dv) : Prop :=
  ∀ v vs H, Ms K F M H → Rp K (hid (ads M ++ F) H) v x → RpL K (hid (ads M ++ F) H) vs xs → ∀ Q : VK, (∀ u H', Same H H' → Rp K (hid (ads M ++ F) H') u z → Q u H') → r v vs H Q
theorem ed_bmS {r : V → List V → Hp → VK → Prop} {tA : TA} {s : Str} {ds : List Dv} (ho : EvD K F M to Γ (.str s)) (h : EvA K F M tA Γ ds) (hr : MtD K F M r (.str s) ds z) : EvD K F M (tBM K "str" r to tA) Γ z := fun σ H m s Q q =>
  ho σ H m s _ fun v H1 e1 r1 => by
    cases r1
    exact ⟨rfl, h σ H1 (m.mono e1) (s.mono e1) _ fun vs H2 e2 r2 => hr _ vs H2 ((m.mono e1).mono e2) (.str _) r2 Q fun u H3 e3 r3 => q u H3 ((e1.trans e2).trans e3) r3⟩
theorem wx_bmS {r : V → List V → Hp → VK → Prop} {tA : TA} {s : Str} (ho : EvD K F M to Γ (.str s)) (h : WpA K Pm F tA Γ M fun ds M' => ∃ z, MtD K F M' r (.str s) ds z ∧ R z M') : WpX K Pm F (tBM K "str" r to tA) Γ M R := fun H0 σ H S Q q =>
  ho σ H S.ms S.s _ fun v H1 e1 r1 => by
    cases r1
    exact ⟨rfl, h H0 σ H1 (S.mono e1) _ fun vs H2 ds M2 ⟨z, hz, hR⟩ S2 k2 r2 => hz _ vs H2 S2.ms (.str _) r2 Q fun u H3 e3 r3 => q u H3 z M2 hR (S2.mono e3) (((Kp.of e1).trans k2).trans (Kp.of e3)) r3⟩
def rJoinG (K : PySem.W.Frag) : V → List V → Hp → VK → Prop := fun x xs H Q => ∃ a p, ∃ ys : List Str, x = .str a ∧ xs = [.ref p] ∧ (SqL K H p (ys.map V.str) ∨ SqT K H p (ys.map V.str)) ∧ (ys.map (·.length)).sum + ys.length * a.length ≤ 16777216 ∧ Q (.str (Txt.join a ys)) H
theorem mt_joinG {X : Cx} (hK : X.K = K) : MtR X "str.join" (rJoinG K) := hK ▸ mt_join
theorem md_join {a : Str} {ys : List Str} (h : (ys.map (·.length)).sum + ys.length * a.length ≤ 1000000) : MtD K F M (rJoinG K) (.str a) [.lst (ys.map Dv.str)] (.str (Str.join a ys)) := fun v vs H m r1 r2 Q q => by
  cases r1
  cases r2 with
  | cons r2 r3 =>
  cases r3
  cases r2 with
  | lst h2 r2 =>
    have := RpL.strs_of r2
    subst this
    refine ⟨a, _, ys, rfl, rfl, .inl (.inl (.inl (hid_some h2).2)), Nat.le_trans h (by decide), ?_⟩
    rw [join_eq]
    exact q _ H (Same.refl H) (.str _)
theorem md_joinM {a : Str} {ys : List Str} {p : Addr} (i : Nat) (hi : M[i]? = some (p, .lst (ys.map Dv.str))) (h : (ys.map (·.length)).sum + ys.length * a.length ≤ 1000000) : MtD K F M (rJoinG K) (.str a) [.adr p] (.str (Str.join a ys)) := fun v vs H m r1 r2 Q q => by
  cases r1
  cases r2 with
  | cons r2 r3 =>
  cases r3
  cases r2
  obtain ⟨xs, hx, rx⟩ := m.ok _ (List.mem_of_getElem? hi)
  have := RpL.strs_of rx
  subst this
  refine ⟨a, _, ys, rfl, rfl, .inl (.inl (.inl hx)), Nat.le_trans h (by decide), ?_⟩
  rw [join_eq]
  exact q _ H (Same.refl H) (.str _)
/-! in -/
def rInS : R2 := fun x y H Q => ∃ (c : Nat) (z : Str), x = .str ⟨#[c]⟩ ∧ y = .str z ∧ Q (.bl (decide (c ∈ z.cps.toList))) H
def rInG (K : PySem.W.Frag) : R2 := fun x y H Q => rInS x y H Q ∨ (rIn K false x y H Q ∨ rInD K x y H Q)
theorem op_inG {X : Cx} (hK : X.K = K) (hu : X.A.units + 65 < cLine) : OpR X (compareOp .In) (rInG K) := hK ▸ op_in_sign.or (op_in_seq.or (op_inD hu))
theorem room65 {k : Nat} {A : Around} (r : Room k A) : A.units + 65 < cLine := by have := r.un; omega
theorem od_inS {c : Nat} {z : Str} : OpD K F M (rInG K) (.str ⟨#[c]⟩) (.str z) (.bl (decide (c ∈ z.cps.toList))) := fun v w H m r1 r2 Q q => by
  cases r1; cases r2
  exact .inl ⟨c, z, rfl, rfl, q _ H (Same.refl H) (.bl _)⟩
theorem inV_strs {s : Str} : ∀ ys : List Str, inV (.str s) (ys.map V.str) = decide (s ∈ ys)
  | [] => rfl
  | y :: ys => by
    show (eqV (.str y) (.str s) || inV (.str s) (ys.map V.str)) = _
    rw [inV_strs ys]
    by_cases h : s = y
    · subst h; simp [eqV]
    · have : (y == s) = false := by simpa using fun e => h e.symm
      simp [eqV, this, h]
theorem od_inT {s : Str} {ys : List Str} : OpD K F M (rInG K) (.str s) (.tup (ys.map Dv.str)) (.bl (decide (s ∈ ys))) := fun v w H m r1 r2 Q q => by
  cases r1
  cases r2 with
  | tup h2 r2 =>
    have := RpL.strs_of r2
    subst this
    refine .inr (.inl ⟨_, _, rfl, .inr (sqT_hid h2.1), rfl, ?_, ?_⟩)
    · rw [List.all_eq_true]
      intro x hx
      obtain ⟨y, _, rfl⟩ := List.mem_map.mp hx
      rfl
    · rw [inV_strs]
      exact q _ H (Same.refl H) (.bl _)
end
end Dw
namespace Dw
open PySem L2 TL
section
variable {K : PySem.W.Frag} {Pm F : List Addr} {M : Mu} {Γ : Ga} {ta tb te tl' to : TE} {x y z d : Dv} {t u : TT} {R : Dv → Mu → Prop} {H H' : Hp} {σ : L2.St}
theorem sh_app {i j : Str} {a b : Nat} (hi : i.length ≤ a) (hj : j.length ≤ b) : (i ++ j).length ≤ a + b := by rw [slen_app]; omega
theorem sh_mk {l : List Nat} {a : Nat} (h : l.length ≤ a) : (mk l).length ≤ a := by rw [mk_len]; exact h
theorem od_addSh {i j : Str} {a b : Nat} (hi : i.length ≤ a) (hj : j.length ≤ b) (h : Nat.ble (a + b) 1000000 = true) : OpD K F M (rAddG K) (.str i) (.str j) (.str (i ++ j)) := od_addS (by have := Nat.le_of_ble_eq_true h; omega)
/-- a text within a length -/
def EvS (K : PySem.W.Frag) (F : List Addr) (M : Mu) (te : TE) (Γ : Ga) (s : Str) (n : Nat) : Prop := EvD K F M te Γ (.str s) ∧ s.length ≤ n
theorem es_cat {a b : Str} {m n : Nat} (ha : EvS K F M ta Γ a m) (hb : EvS K F M tb Γ b n) (h : Nat.ble (m + n) 1000000 = true) : EvS K F M (tOp (rAddG K) ta tb) Γ (a ++ b) (m + n) :=
  ⟨ed_op ha.1 hb.1 (od_addSh ha.2 hb.2 h), sh_app ha.2 hb.2⟩
theorem es_str {x : Str} {n : Nat} (h : x.length = n) : EvS K F M (tC (.str x)) Γ x n := ⟨ed_str, Nat.le_of_eq h⟩
theorem es_of {s : Str} {n : Nat} (h : EvD K F M te Γ (.str s)) (hn : s.length ≤ n) : EvS K F M te Γ s n := ⟨h, hn⟩
theorem ed_mk {s : Str} {l : List Nat} (h : EvD K F M te Γ (.str s)) (e : tl s = l) : EvD K F M te Γ (.str (mk l)) := by
  rw [← e, mk_tl']; exact h
end
def regL (r : Nat) : List Nat := [112 + r]
def actL : Ac → List Nat
  | .add r n => [97, 100, 100, 32] ++ regL r ++ [32] ++ numL n
  | .copy r s => [99, 111, 112, 121, 32] ++ regL r ++ [32] ++ regL s
  | .swap r s => [115, 119, 97, 112, 32] ++ regL r ++ [32] ++ regL s
  | .emr r => [101, 109, 105, 116, 32] ++ regL r
  | .emn n => [101, 109, 105, 116, 32] ++ numL n
def putL : Pu → List Nat
  | .num n => numL n
  | .reg r => regL r
  | .cho r m n => regL r ++ [32, 63, 32] ++ numL m ++ [32, 58, 32] ++ numL n
def cardL (c : Cd) : List Nat := tl c.nm ++ [58, 32] ++ joinL [44, 32] (c.ac.map actL) ++ (if c.ac = [] then [] else [32]) ++ [45, 62, 32] ++ putL c.pu ++ [59]
def deckL (d : Dk) : List Nat := joinL [10] (([119, 114, 97, 112, 32] ++ numL d.w ++ [59]) :: d.cs.map cardL)
theorem num_le {n : Nat} (h : n < 1000) : (num n).length ≤ 3 := by
  rw [num_mk, mk_len]
  exact numL_len (by decide) h
theorem numL_le {n : Nat} (h : n < 1000) : (numL n).length ≤ 3 := numL_len (by decide) h
theorem actL_le {w : Nat} {a : Ac} (hw : w ≤ 1000) (h : a.ok w) : (actL a).length ≤ 20 := by
  cases a with
  | add r n => have := numL_le (n := n) (by have := h.2; omega); simp [actL, regL]; omega
  | copy r s => simp [actL, regL]
  | swap r s => simp [actL, regL]
  | emr r => simp [actL, regL]
  | emn n => have := numL_le (n := n) (by have : n < w := h; omega); simp [actL]; omega
theorem putL_le {p : Pu} (h : p.ok) : (putL p).length ≤ 20 := by
  cases p with
  | num n => have := numL_le (n := n) (by have : n ≤ 9 := h; omega); simp [putL]; omega
  | reg r => simp [putL, regL]
  | cho r m n =>
    have h1 := numL_le (n := m) (by have := h.2.1; omega)
    have h2 := numL_le (n := n) (by have := h.2.2; omega)
    simp [putL, regL]; omega
theorem joinL_le (S : List Nat) (b : Nat) : ∀ ps : List (List Nat), (∀ p ∈ ps, p.length ≤ b) → (joinL S ps).length ≤ ps.length * (b + S.length)
  | [], _ => by simp [joinL]
  | [p], h => by
    have := h p (List.mem_cons_self ..)
    show (joinL S [p]).length ≤ 1 * (b + S.length)
    simp only [joinL]
    omega
  | p :: q :: r, h => by
    have h1 := h p (List.mem_cons_self ..)
    have h2 := joinL_le S b (q :: r) fun x hx => h x (List.mem_cons_of_mem _ hx)
    simp only [joinL, List.length_append, List.length_cons] at h2 ⊢
    rw [Nat.add_mul (r.length + 1) 1, Nat.one_mul]
    omega
theorem names_le : ∀ s ∈ namesA, s.length ≤ 8 := by decide +kernel
theorem cardL_le {w : Nat} {c : Cd} (hw : w ≤ 1000) (h : c.ok w) : (cardL c).length ≤ 300 := by
  have h1 := names_le _ h.nm
  have h2 := joinL_le [44, 32] 20 (c.ac.map actL) (fun p hp => by
    obtain ⟨a, ha, rfl⟩ := List.mem_map.mp hp
    exact actL_le hw (h.ac a ha))
  have h3 := putL_le h.pu
  have h4 := h.len
  rw [List.length_map] at h2
  have h5 : (if c.ac = [] then [] else [32] : List Nat).length ≤ 1 := by split <;> simp
  rw [len_tl] at h1
  unfold cardL
  simp only [List.length_append, List.length_cons, List.length_nil] at h2 h5 ⊢
  omega
theorem reg_at {r : Nat} (h : r < 4) : (Str.ofString "pqrs").cps.toList[r]? = some (112 + r) := by
  have : r = 0 ∨ r = 1 ∨ r = 2 ∨ r = 3 := by omega
  rcases this with rfl | rfl | rfl | rfl <;> decide +kernel
def S_card_text : DS := fun ds M R => ∃ c w, ds = [eC c] ∧ M = [] ∧ Cd.ok w c ∧ w ≤ 1000 ∧ R (.str (mk (cardL c))) []
def S_text : DS := fun ds M R => ∃ d, ds = [eD d] ∧ M = [] ∧ Dk.ok d ∧ R (.str (mk (deckL d))) []
section
variable {K : PySem.W.Frag} {Pm F : List Addr} {M : Mu} {Γ : Ga} {ta tb te tl' to : TE} {x y z d : Dv} {t u : TT} {R : Dv → Mu → Prop} {H H' : Hp} {σ : L2.St}
/-- [e for x in xs], what each turn gives said by its place -/
theorem en_lcI {j : Nat} {ds rs : List Dv} (h : EvD K F M tl' Γ d) (hd : d = .lst ds ∨ d = .sql ds) (hz : ds.length ≤ 60000) (hlen : rs.length = ds.length)
    (hg : ∀ (i : Nat) e r, ds[i]? = some e → rs[i]? = some r → ∀ Dl, EvD K (Dl :: F) M te (Γ.set j (some e)) r) :
    EvN K F M (tLc (iList K tl') (gName j) tYes te [j]) Γ rs := fun σ H m s Q q => h σ H m s _ fun v H1 e1 r1 => by
  obtain ⟨a, xs, rfl, hq, rx⟩ : ∃ a xs, v = .ref a ∧ SqL K (hid (ads M ++ F) H1) a xs ∧ RpL K (hid (ads M ++ F) H1) xs ds := by
    rcases hd with rfl | rfl
    · cases r1 with
      | lst h r => exact ⟨_, _, rfl, .inl (.inl h), r⟩
    · cases r1 with
      | sql h r => exact ⟨_, _, rfl, h, r⟩
  have m1 := m.mono e1
  have s1 := s.mono e1
  refine ⟨a, rfl, ⟨xs, (hid_sub _ _).seq hq⟩, fun Dl hD => ?_⟩
  refine lc_list (xs := xs) (fun i => Lcs K F M H1 Dl (rs.take i)) ⟨same_new hD, [], upd_same, .nil⟩ (fun i H' _ c => c.e.seq ((hid_sub _ _).seq hq)) (fun i x H' hx c => ?_) fun H' c => ?_
  · obtain ⟨e, he, re⟩ := rx.getV hx
    have hi := (List.getElem?_eq_some_iff.mp he).1
    have hr : rs[i]? = some rs[i] := by simp [hlen, hi]
    refine ⟨wipe_one σ j x, c.turn (b := true) (g := rs[i]) hD m1 s1 re ?_ et_yes (fun _ => hg i e _ he hr Dl) ?_⟩
    · rw [List.length_take]; omega
    · rw [List.take_succ, hr]
      rfl
  · rw [rx.len, ← hlen, List.take_length] at c
    obtain ⟨ys, hy, ry⟩ := c.l
    exact q Dl H' ys (none_back e1 hD) (e1.trans c.e) hy ry
end
end Dw
namespace Dw
open PySem L2 TL
/-- a class stands behind the top under its name, its __init__ and the attributes that its objects have -/
structure ClsT (K : PySem.W.Frag) (mg : Str → Option Value) (x : Str) (C : Addr) (qi : Str) (st : Stmt) (ps : List Str) (fs : List Str) : Prop where
  cl : Cls K C
  mg : mg x = some (.ref C)
  na : ∀ f ∈ fs, NoAttr K C f
  ini : ∃ f fd, Fun K "__init__" qi st f fd ∧ Mk K C f ∧ Binds K fd ps []
/-- a method of a class -/
structure MthT (K : PySem.W.Frag) (C : Addr) (m qual : Str) (st : Stmt) (ps : List Str) : Prop where
  ex : ∃ f fd, Fun K m qual st f fd ∧ Meth K C m f ∧ Binds K fd ps []
structure CalK (P : Program) (w : World) (K : PySem.W.Frag) (mg : Str → Option Value) (base : Heap) (k : Nat) (x : Str) (C : Addr) (ps : List Str) (sp : Sp) : Prop where
  ex : ∃ f fd, FnOk P w K mg base CX0 k f fd ps sp ∧ Mk K C f ∧ Binds K fd ps []
  mg : mg x = some (.ref C)
structure CalM (P : Program) (w : World) (K : PySem.W.Frag) (mg : Str → Option Value) (base : Heap) (k : Nat) (C : Addr) (m : Str) (ps : List Str) (sp : Sp) : Prop where
  ex : ∃ f fd, FnOk P w K mg base CX0 k f fd ps sp ∧ Meth K C m f ∧ Binds K fd ps []
  cl : Cls K C
section
variable {P : Program} {w : World} {K : PySem.W.Frag} {mg : Str → Option Value} {base : Heap} {k : Nat} {x qual m : Str} {C : Addr} {st : Stmt} {N ps fs : List Str} {sp : Sp}
theorem ClsT.cal (D : ClsT K mg x C qual st ps fs) (h : ∀ f fd, Fun K "__init__" qual st f fd → FnOk P w K mg base CX0 k f fd ps sp) : CalK P w K mg base k x C ps sp := by
  obtain ⟨f, fd, F, hm, hb⟩ := D.ini
  exact ⟨⟨f, fd, h f fd F, hm, hb⟩, D.mg⟩
theorem MthT.cal (D : MthT K C m qual st ps) (hc : Cls K C) (h : ∀ f fd, Fun K m qual st f fd → FnOk P w K mg base CX0 k f fd ps sp) : CalM P w K mg base k C m ps sp := by
  obtain ⟨f, fd, F, hm, hb⟩ := D.ex
  exact ⟨⟨f, fd, h f fd F, hm, hb⟩, hc⟩
end
section
variable {X : Cx} {k : Nat} {x m : Str} {C : Addr} {ps : List Str} {sp : Sp} {p pos apos : Pos} {e o : Expr} {es : List Expr} {t : TA} {te : TE}
theorem pe_mk (c : CalK X.prog X.w X.K X.mg X.base k x C ps sp) (hr : Room (k + 1) X.A) (hg : Gl X x) (ha : PA X (e :: es) t) (hdb : (x == ("__debug__" : Str)) = false := by decide) (he : starEach (e :: es) X.env = (false, eval e X.env) :: starEach es X.env := by rfl) (hpl : (backTo pos (starEach es X.env)).any (·.1) = false := by rfl) :
    PE X (.Call (.Name x p) (e :: es) [] pos) (tMake C sp [] E0 t) := by
  obtain ⟨f, fd, F, hm, hb⟩ := c.ex
  exact pe_make hm F hr hg c.mg hb .nil pass0 ha hdb he hpl
theorem pe_mth {pl : Sem Bool} (c : CalM X.prog X.w X.K X.mg X.base k C m ps sp) (hr : Room k X.A) (he : PE X o te) (ha : PA X (e :: es) t)
    (hst : starEach (e :: es) X.env = (false, eval e X.env) :: starEach es X.env := by rfl) (hpl : (backTo pos (starEach es X.env)).any (·.1) = false := by rfl)
    (ht : eval (.Call (.Attribute o m apos) (e :: es) [] pos) X.env = (do
      let ov ← eval o X.env
      standAt apos.atName
      let (f, first) ← holding [ov] (getMethod ov m pl)
      callWith pos f first (backTo pos (starEach (e :: es) X.env)) (backToKw pos (keywordEach [] X.env))) := by rfl) :
    PE X (.Call (.Attribute o m apos) (e :: es) [] pos) (tMeth C m sp [] E0 te t) := by
  obtain ⟨f, fd, F, hm, hb⟩ := c.ex
  exact pe_meth he c.cl hm F hr hb .nil pass0 ha hst hpl ht
theorem pe_mth0 {pl : Sem Bool} (c : CalM X.prog X.w X.K X.mg X.base k C m ps sp) (hr : Room k X.A) (he : PE X o te)
    (ht : eval (.Call (.Attribute o m apos) [] [] pos) X.env = (do
      let ov ← eval o X.env
      standAt apos.atName
      let (f, first) ← holding [ov] (getMethod ov m pl)
      callWith pos f first (backTo pos (starEach [] X.env)) (backToKw pos (keywordEach [] X.env))) := by rfl) :
    PE X (.Call (.Attribute o m apos) [] [] pos) (tMeth C m sp [] E0 te tNil) := by
  obtain ⟨f, fd, F, hm, hb⟩ := c.ex
  exact pe_meth0 he c.cl hm F hr hb .nil pass0 ht
end
section
variable {K : PySem.W.Frag} {Pm F : List Addr} {M : Mu} {Γ : Ga} {ta tb te tl' to : TE} {x y z d : Dv} {t u : TT} {R : Dv → Mu → Prop} {H0 H H' : Hp} {σ : L2.St} {P : Po}
theorem RpF.put {v : V} {f : Str} (r : Rp K H v d) : ∀ {fs : List (Str × V)} {gs : List (Str × Dv)}, RpF K H fs gs → RpF K H (putF f v fs) (putD f d gs)
  | _, _, .nil => .cons r .nil
  | _, _, .cons (f := g) h t => by
    unfold putF putD
    by_cases e : g = f
    · rw [if_pos e, if_pos e]; exact .cons r t
    · rw [if_neg e, if_neg e]; exact .cons h (RpF.put r t)
/-- o.f -/
theorem ed_fld {C : Addr} {gs : List (Str × Dv)} {f : Str} (h : EvD K F M te Γ (.ins C gs)) (hc : Cls K C) (hn : NoAttr K C f) (hl : gs.lookup f = some d) : EvD K F M (tFld K te f) Γ d := fun σ H m s Q q =>
  h σ H m s _ fun v H1 e1 r1 => by
    cases r1 with
    | ins h1 r1 =>
      obtain ⟨u, hu, ru⟩ := r1.get hl
      exact ⟨_, C, _, _, u, rfl, (hid_some h1).2, hc, hn, hu, q u H1 e1 ru⟩
theorem ed_fldM {C p : Addr} {gs : List (Str × Dv)} {f : Str} (i : Nat) (h : EvD K F M te Γ (.adr p)) (hi : M[i]? = some (p, .ins C gs)) (hc : Cls K C) (hn : NoAttr K C f) (hl : gs.lookup f = some d) : EvD K F M (tFld K te f) Γ d := fun σ H m s Q q =>
  h σ H m s _ fun v H1 e1 r1 => by
    cases r1
    obtain ⟨dx, fs, hx, rx⟩ := (m.mono e1).ok _ (List.mem_of_getElem? hi)
    obtain ⟨u, hu, ru⟩ := rx.get hl
    exact ⟨p, C, dx, fs, u, rfl, hx, hc, hn, hu, q u H1 e1 ru⟩
/-- o.f = e, o mutable -/
theorem ws_fld {C p : Addr} {f : Str} (h : WpX K Pm F te Γ M fun d M' => EvD K F M' to Γ (.adr p) ∧ Cls K C ∧ NoAttr K C f ∧ ∃ i gs, M'[i]? = some (p, .ins C gs) ∧ gs.length < 1000 ∧ P.n Γ (M'.set i (p, .ins C (putD f d gs)))) : WpS K Pm F (sFld K to te f) Γ M P := fun H0 σ H D S n r b c =>
  h H0 σ H S _ fun w H1 d M1 ⟨ho, hc, hn, i, gs, hi, hz, hR⟩ S1 k1 r1 =>
    ho σ H1 S1.ms S1.s _ fun v H2 e2 r2 => by
      cases r2
      have S2 := S1.mono e2
      obtain ⟨dx, fs, hx, rx⟩ := S2.ms.ok _ (List.mem_of_getElem? hi)
      have hp : p ∈ ads M1 ++ F := List.mem_append_left _ (List.mem_map.mpr ⟨_, List.mem_of_getElem? hi, rfl⟩)
      have hk : Same (hid (ads M1 ++ F) H2) (hid (ads M1 ++ F) (upd H2 p (.ins C dx (putF f w fs)))) := fun a o q => by
        obtain ⟨m, z⟩ := hid_some q
        rw [hid_out m, upd_ne (fun z => m (by rw [z]; exact hp))]
        exact z
      refine ⟨p, C, dx, fs, rfl, hx, hc, hn, by rw [rx.len]; exact hz, ?_⟩
      obtain ⟨S3, k3⟩ := S2.upd1 (H' := upd H2 p (.ins C dx (putF f w fs))) (m' := .ins C (putD f d gs)) hi (fun a o ne q => by rw [upd_ne ne]; exact q) ⟨dx, _, upd_same, RpF.mono hk (RpF.put (r1.mono (Kp.of e2)) rx)⟩
      exact n _ _ _ _ hR S3 ((k1.trans (Kp.of e2)).trans k3)
/-- C(..) : the new object, mutable still -/
theorem wx_mkM {C : Addr} {n : Nat} {Sp : DS} {tA : TA} {E : XK} (h : WpA K Pm F tA Γ M fun ds M' => ds.length + 1 = n ∧ ∀ p, Sp (.adr p :: ds) [(p, .ins C [])] fun d M2 => ∃ fs, d = .non ∧ M2 = [(p, .ins C fs)] ∧ (p ∉ ads M' ++ F → R (.adr p) ((p, .ins C fs) :: M'))) :
    WpX K Pm F (tMake C (spD K n Sp) [] E tA) Γ M R := fun H0 σ H S Q q => h H0 σ H S _ fun vs H1 ds M1 ⟨hn, hs⟩ S1 k1 r1 x dx hx hdx hne => by
  have e1 : Same H1 (upd (upd H1 dx (.own x)) x (.ins C dx [])) := fun a o z => by
    rw [upd_ne (ne_of_none z hx), upd_ne (ne_of_none z hdx)]
    exact z
  have hxf := S1.ms.fresh hx
  have hm : Ms K (ads M1 ++ F) [(x, .ins C [])] (upd (upd H1 dx (.own x)) x (.ins C dx [])) := by
    refine ⟨fun q hq => ?_, by simp [ads], fun a ha => ?_, fun a ha hm => ?_⟩
    · rw [List.mem_singleton] at hq
      rw [hq]
      exact ⟨dx, [], upd_same, .nil⟩
    · rcases List.mem_append.mp ha with z | z
      · obtain ⟨q', hq, e⟩ := List.mem_map.mp z
        obtain ⟨o, w⟩ := (S1.ms.ok q' hq).there
        exact ⟨o, e1 _ _ (by rw [← e]; exact w)⟩
      · obtain ⟨o, w⟩ := S1.ms.ff a z
        exact ⟨o, e1 _ _ w⟩
    · have : a = x := by simpa [ads] using hm
      exact hxf (by rw [← this]; exact ha)
  refine ⟨ads M1 ++ F, [(x, .ins C [])], .adr x :: ds, _, by show (vs ++ []).length + 1 = n; rw [List.append_nil, r1.len]; exact hn, hm, ?_, hs x, fun v H3 d N M2 hR ha hnew hf hm3 r3 => ?_⟩
  · refine .cons (.adr x) ?_
    rw [List.append_nil]
    have : Same (hid (ads M1 ++ F) H1) (hid (ads [(x, Mv.ins C [])] ++ (ads M1 ++ F)) (upd (upd H1 dx (.own x)) x (.ins C dx []))) := fun a o z => by
      obtain ⟨n', w⟩ := hid_some z
      have ne : a ≠ x := ne_of_none w hx
      have n2 : a ∉ ads [(x, Mv.ins C [])] ++ (ads M1 ++ F) := fun m => by
        rcases List.mem_append.mp m with m | m
        · exact ne (by simpa [ads] using m)
        · exact n' m
      rw [hid_out n2]
      exact e1 a o w
    exact r1.mono this
  · obtain ⟨fs, rfl, e2, hR⟩ := hR
    have hlen : M2.length = 1 := by
      have := congrArg List.length ha
      simpa [ads] using this
    have e3 : N ++ M2 = [] ++ [(x, Mv.ins C fs)] := e2
    obtain ⟨rfl, rfl⟩ := List.append_inj' e3 (by rw [hlen]; rfl)
    cases r3
    have e13 : Same H1 H3 := fun a o z => hf a o (fun m => by
      have : a = x := by simpa [ads] using m
      rw [this, hx] at z; cases z) (e1 a o z)
    obtain ⟨S3, k3⟩ := S1.join (N := [(x, .ins C fs)]) e13 (fun q hq => by rw [List.mem_singleton] at hq; rw [hq]; exact hx) hm3
    exact ⟨rfl, q _ H3 _ _ (hR hxf) S3 (k1.trans k3) (.adr x)⟩
/-- an object is changed no more -/
theorem Stt.frzI {C p : Addr} {fs : List (Str × Dv)} (S : Stt K Pm F ((p, .ins C fs) :: M) H0 H σ Γ) : Stt K Pm F M H0 H σ Γ ∧ Kp F ((p, .ins C fs) :: M) H M H ∧ Rp K (hid (ads M ++ F) H) (.ref p) (.ins C fs) := by
  obtain ⟨S2, k2⟩ := S.drp
  have nd := List.nodup_cons.mp S.ms.nd
  have hp : p ∉ ads M ++ F := fun m => by
    rcases List.mem_append.mp m with m | m
    · exact nd.1 m
    · exact S.ms.ap p m (List.mem_cons_self ..)
  obtain ⟨dx, xs, h1, r⟩ := S.ms.ok _ (List.mem_cons_self ..)
  exact ⟨S2, k2, .ins (by rw [hid_out hp]; exact h1) (RpF.mono k2 r)⟩
theorem wx_frzI (h : WpX K Pm F te Γ M fun d M' => ∃ p C fs M1, d = .adr p ∧ M' = (p, .ins C fs) :: M1 ∧ R (.ins C fs) M1) : WpX K Pm F te Γ M R := fun H0 σ H S Q q =>
  h H0 σ H S _ fun v H1 d M1 ⟨p, C, fs, M2, e1, e2, hR⟩ S1 k1 r1 => by
    subst e1
    subst e2
    cases r1
    obtain ⟨S2, k2, rp⟩ := S1.frzI
    exact q _ H1 _ _ hR S2 (k1.trans k2) rp
end
/-- a tuple that stands as a constant of the top -/
structure TupT (K : PySem.W.Frag) (mg : Str → Option Value) (x : Str) (ds : List Dv) : Prop where
  ex : ∃ a, mg x = some (.ref a) ∧ (∀ H, Rp K H (.ref a) (.tup ds)) ∧ ∀ H, tyV K "tuple" (.ref a) H
def tGT (K : PySem.W.Frag) (ds : List Dv) : TE := fun _ H Q => ∀ a, (∀ H, Rp K H (.ref a) (.tup ds)) → (∀ H, tyV K "tuple" (.ref a) H) → Q (.ref a) H
theorem pe_tc {X : Cx} {K : PySem.W.Frag} {mg : Str → Option Value} {x : Str} {pos : Pos} {ds : List Dv} (hm : X.mg = mg) (hg : Gl X x) (c : TupT K mg x ds) (hd : (x == ("__debug__" : Str)) = false := by decide) : PE X (.Name x pos) (tGT K ds) := by
  obtain ⟨a, h1, h2, h3⟩ := c.ex
  refine ⟨fun pins s σ H Q I h => ?_⟩
  exact ld_glob I hg (by rw [hm]; exact h1) ⟨.ref a, H, I, rfl, h a h2 h3⟩ hd
section
variable {K : PySem.W.Frag} {F : List Addr} {M : Mu} {Γ : Ga} {ds : List Dv}
theorem ed_tc : EvD K F M (tGT K ds) Γ (.tup ds) := fun σ H m s Q q a ha _ => q _ H (Same.refl H) (ha _)
end
end Dw
namespace Dw
open PySem L2 TL
def S_skip : DS := fun ds M R => ∃ (row : Str) (c : Nat) (z : Str), ds = [.str row, .int c, .str z] ∧ M = [] ∧ row.length ≤ 1000000 ∧ c ≤ row.length ∧ R (.int ((c + ((((tl row).drop c).takeWhile fun x => decide (x ∈ tl z)).length) : Nat) : Int)) []
end Dw
namespace Dw
open PySem L2 TL
abbrev sLet : Str := "abcdefghijklmnopqrstuvwxyz"
abbrev sDig : Str := "0123456789"
def isLo (x : Nat) : Bool := decide (x ∈ tl sLet)
def isDg (x : Nat) : Bool := decide (x ∈ tl sDig)
/-- behind the word, the number or the sign that begins at c -/
def findEnd (l : List Nat) (c : Nat) : Nat := match l[c]? with
  | none => c + 1
  | some x => if isLo x then c + ((l.drop c).takeWhile isLo).length else if isDg x then c + ((l.drop c).takeWhile isDg).length else if (l.drop c).take 2 = [45, 62] then c + 2 else c + 1
def S_find_end : DS := fun ds M R => ∃ (row : Str) (c : Nat), ds = [.str row, .int c] ∧ M = [] ∧ row.length ≤ 1000000 ∧ c < row.length ∧ R (.int (findEnd (tl row) c : Nat)) []
def kws : List Str := ["wrap", "add", "copy", "swap", "emit"]
def sgs : List Str := ["->", ":", ",", ";", "?"]
def rgs : List Str := ["p", "q", "r", "s"]
def isName (x : Str) : Bool := (decide (1 ≤ x.length) && decide (x.length ≤ 8)) && decide (((tl x).takeWhile isLo).length = x.length)
def isNum (x : Str) : Bool := if (!(decide (1 ≤ x.length) && decide (x.length ≤ 3))) || decide (((tl x).takeWhile isDg).length < x.length) then false else decide (x = "0") || !decide ((tl x)[0]? = some 48)
def kindOf (x : Str) : Option Str := if x ∈ kws ∨ x ∈ sgs then some x else if x ∈ rgs then some "letter" else if isName x then some "name" else if isNum x then some "number" else none
def oS : Option Str → Dv
  | none => .non
  | some x => .str x
def S_is_word : DS := fun ds M R => ∃ (x : Str), ds = [.str x] ∧ M = [] ∧ x.length ≤ 1000000 ∧ R (.bl (isName x)) []
def S_is_number : DS := fun ds M R => ∃ (x : Str), ds = [.str x] ∧ M = [] ∧ x.length ≤ 1000000 ∧ R (.bl (isNum x)) []
def S_find_kind : DS := fun ds M R => ∃ (x : Str), ds = [.str x] ∧ M = [] ∧ x.length ≤ 1000000 ∧ R (oS (kindOf x)) []
section
variable {K : PySem.W.Frag} {Pm F : List Addr} {M : Mu} {Γ : Ga} {ta tb te tl' to : TE} {x y z d : Dv} {t u : TT} {R : Dv → Mu → Prop} {H0 H H' : Hp} {σ : L2.St} {P : Po}
theorem ed_and {a b : Bool} (h1 : EvD K F M ta Γ (.bl a)) (h2 : a = true → EvD K F M tb Γ (.bl b)) : EvD K F M (tAndV ta tb) Γ (.bl (a && b)) := fun σ H m s Q q => h1 σ H m s _ fun v H1 e1 r1 => by
  cases r1
  refine ⟨a, rfl, ?_⟩
  cases a with
  | true => exact iteT (h2 rfl σ H1 (m.mono e1) (s.mono e1) Q fun v H2 e2 r2 => q v H2 (e1.trans e2) r2)
  | false => exact iteF (q _ H1 e1 (.bl _))
theorem ed_or {a b : Bool} (h1 : EvD K F M ta Γ (.bl a)) (h2 : a = false → EvD K F M tb Γ (.bl b)) : EvD K F M (tOrV ta tb) Γ (.bl (a || b)) := fun σ H m s Q q => h1 σ H m s _ fun v H1 e1 r1 => by
  cases r1
  refine ⟨a, rfl, ?_⟩
  cases a with
  | false => exact iteF (h2 rfl σ H1 (m.mono e1) (s.mono e1) Q fun v H2 e2 r2 => q v H2 (e1.trans e2) r2)
  | true => exact iteT (q _ H1 e1 (.bl _))
/-- a value's truth -/
def Dv.tru : Dv → Option Bool
  | .non => some false
  | .bl b => some b
  | .int i => some (i != 0)
  | .lst xs => some (!xs.isEmpty)
  | .tup xs => some (!xs.isEmpty)
  | .stp xs => some (!xs.isEmpty)
  | _ => none
theorem et_tru {b : Bool} (h : EvD K F M te Γ d) (e : d.tru = some b) : EvT K F M (tTru K te) Γ b := fun σ H m s Q q => h σ H m s _ fun v H1 e1 r1 => by
  have key : ∀ {xs : List V} {ds : List Dv}, RpL K (hid (ads M ++ F) H1) xs ds → (!xs.isEmpty) = !ds.isEmpty := fun r => by cases r <;> rfl
  cases r1 with
  | non => cases e; exact ⟨false, rfl, q H1 e1⟩
  | bl b' => cases e; exact ⟨_, rfl, q H1 e1⟩
  | int i => cases e; exact ⟨_, rfl, q H1 e1⟩
  | str x => cases e
  | lst h1 r1 => cases e; exact ⟨_, .inl ⟨_, .inl (.inl (hid_some h1).2), (key r1).symm⟩, q H1 e1⟩
  | tup h1 r1 => cases e; exact ⟨_, .inr (.inl ⟨_, sqT_hid h1.1, (key r1).symm⟩), q H1 e1⟩
  | stp h1 r1 => cases e; exact ⟨_, .inr (.inl ⟨_, sqT_hid h1, (key r1).symm⟩), q H1 e1⟩
  | ins h1 r1 => cases e
  | dic h1 r1 => cases e
  | sql h1 r1 => cases e
  | adr a => cases e
end
end Dw
namespace Dw
open PySem L2 TL
/-- where the program's classes stand -/
structure Ads where
  card : Addr
  deck : Addr
  token : Addr
  parser : Addr
  emission : Addr
structure Tk where
  kd : Str
  tx : Str
  ln : Nat
  cl : Nat
def eT (a : Ads) (t : Tk) : Dv := .ins a.token [("kind", .str t.kd), ("text", .str t.tx), ("line", .int t.ln), ("column", .int t.cl)]
def S_Token_init (a : Ads) : DS := fun ds M R => ∃ (p : Addr) (k x l c : Dv), ds = [.adr p, k, x, l, c] ∧ M = [(p, .ins a.token [])] ∧ R .non [(p, .ins a.token [("kind", k), ("text", x), ("line", l), ("column", c)])]
/-- the tokens of a row from c on; none: one that is none -/
def lexRow (row : List Nat) (ln : Nat) : Nat → Nat → Option (List Tk)
  | 0, _ => some []
  | f + 1, c => if c < row.length then
      if row[c]? = some 32 then lexRow row ln f (c + 1)
      else match kindOf (mk ((row.drop c).take (findEnd row c - c))) with
        | none => none
        | some k => (lexRow row ln f (findEnd row c)).map (⟨k, mk ((row.drop c).take (findEnd row c - c)), ln, c⟩ :: ·)
    else some []
theorem findEnd_gt {row : List Nat} {c : Nat} (h : c < row.length) : c < findEnd row c := by
  have hx : row[c]? = some row[c] := by simp [h]
  unfold findEnd
  rw [hx]
  show c < (if isLo row[c] = true then _ else _)
  have tw : ∀ p : Nat → Bool, p row[c] = true → 1 ≤ ((row.drop c).takeWhile p).length := fun p hp => by
    rw [List.drop_eq_getElem_cons h, List.takeWhile_cons, hp]
    show 1 ≤ (_ :: _).length
    rw [List.length_cons]; omega
  split
  · rename_i hb; have := tw isLo hb; omega
  · split
    · rename_i hb; have := tw isDg hb; omega
    · split <;> omega
theorem findEnd_le {row : List Nat} {c : Nat} (h : c < row.length) : findEnd row c ≤ row.length := by
  have hx : row[c]? = some row[c] := by simp [h]
  unfold findEnd
  rw [hx]
  show (if isLo row[c] = true then _ else _) ≤ _
  have tw : ∀ p : Nat → Bool, ((row.drop c).takeWhile p).length ≤ row.length - c := fun p => by
    have := (List.takeWhile_sublist (l := row.drop c) p).length_le
    rwa [List.length_drop] at this
  split
  · have := tw isLo; omega
  · split
    · have := tw isDg; omega
    · split
      · rename_i hb
        have := congrArg List.length hb
        rw [List.length_take, List.length_drop] at this
        simp at this
        omega
      · omega
/-- more fuel than signs changes nothing -/
theorem lexRow_fuel {row : List Nat} {ln : Nat} : ∀ (f c : Nat), row.length ≤ c + f → lexRow row ln f c = lexRow row ln (row.length - c) c
  | 0, c, h => by
    have : row.length - c = 0 := by omega
    rw [this]
  | f + 1, c, h => by
    by_cases hc : c < row.length
    · obtain ⟨g, hg⟩ : ∃ g, row.length - c = g + 1 := ⟨row.length - c - 1, by omega⟩
      rw [hg]
      simp only [lexRow, if_pos hc]
      have e1 : lexRow row ln f (c + 1) = lexRow row ln g (c + 1) := by
        rw [lexRow_fuel f (c + 1) (by omega)]
        have : row.length - (c + 1) = g := by omega
        rw [this]
      have hgt := findEnd_gt hc
      have hle := findEnd_le hc
      have e2 : lexRow row ln f (findEnd row c) = lexRow row ln g (findEnd row c) := by
        rw [lexRow_fuel f (findEnd row c) (by omega), ← lexRow_fuel g (findEnd row c) (by omega)]
      rw [e1, e2]
    · have : row.length - c = 0 := by omega
      rw [this]
      simp only [lexRow, if_neg hc]
termination_by f => f
def S_read_row (a : Ads) : DS := fun ds M R => ∃ (row : Str) (ln : Nat) (ts : List Tk), ds = [.str row, .int ln] ∧ M = [] ∧ row.length ≤ 50000 ∧ lexRow (tl row) ln row.length 0 = some ts ∧ R (.lst (ts.map (eT a))) []
end Dw
namespace Dw
open PySem L2 TL
section
variable {K : PySem.W.Frag} {Pm F : List Addr} {M : Mu} {Γ : Ga} {ta tb te tl' to : TE} {x y z d : Dv} {t u : TT} {R : Dv → Mu → Prop} {H0 H H' : Hp} {σ : L2.St} {P : Po} {ts : TS}
def rSplitG : V → List V → Hp → VK → Prop := fun x xs H Q => ∃ a b, x = .str a ∧ xs = [.str b] ∧ (b.length == 0) = false ∧ a.length + 2 ≤ sizeLine ∧ rNewStrs (Txt.split a b) H Q
theorem mt_splitG {X : Cx} : MtR X "str.split" rSplitG := mt_split
theorem en_split {a b : Str} (ho : EvD K F M to Γ (.str a)) (h : EvD K F M te Γ (.str b)) (hb : (b.length == 0) = false) (hl : a.length ≤ 100000) : EvN K F M (tBM K "str" rSplitG to (tCons te tNil)) Γ ((Txt.split a b).map Dv.str) := fun σ H m s Q q =>
  ho σ H m s _ fun v H1 e1 r1 => by
    cases r1
    refine ⟨rfl, h σ H1 (m.mono e1) (s.mono e1) _ fun w H2 e2 r2 => ?_⟩
    cases r2
    refine ⟨a, b, rfl, rfl, hb, ?_, fun p hp => q p _ _ (none_back (e1.trans e2) hp) ((e1.trans e2).trans (same_new hp)) upd_same (RpL.strs _)⟩
    have : (100002 : Nat) ≤ sizeLine := by decide
    omega
/-- for i, x in enumerate(xs) -/
theorem ws_forE {g : TG} {tA : TA} {ds : List Dv} (h : EvA K F M tA Γ [.lst ds]) (I : Nat → Ga → Mu → Prop) (h0 : I 0 Γ M)
    (ht : ∀ i e Γ' M', ds[i]? = some e → I i Γ' M' → ∃ Γ'', TgD K g (.stp [.int (i : Nat), e]) Γ' Γ'' ∧ WpS K Pm F ts Γ'' M' { n := I (i + 1), c := I (i + 1), b := P.n, r := P.r })
    (he : ∀ Γ' M', I ds.length Γ' M' → P.n Γ' M') : WpS K Pm F (tFor (iEnum K tA) g ts) Γ M P := fun H0 σ H D S n r b c =>
  h σ H S.ms S.s _ fun vs H1 e1 r1 => by
    cases r1 with
    | cons r1 r2 =>
    cases r2
    cases r1 with
    | lst hq rx =>
    rename_i a xs
    have hq' : SqL K (hid (ads M ++ F) H1) a xs := .inl (.inl hq)
    refine ⟨a, xs, rfl, (hid_sub _ _).seq hq', fun i m σ' H' => m = xs.length - i ∧ i ≤ xs.length ∧ Wd K Pm F M H0 H1 (I i) σ' H', ⟨xs.length, by simp, Nat.zero_le _, Γ, M, h0, S.mono e1, Same.refl _⟩, ?_⟩
    rintro i m σ' H' ⟨rfl, hi, Γ', M', hI, S', k'⟩
    have hs : SqL K H' a xs := (hid_sub _ _).seq (k'.seq hq')
    by_cases hlt : i < xs.length
    · refine .inr ⟨⟨xs, xs[i], hs, by simp [hlt]⟩, fun σ2 H2 => i + 1 ≤ xs.length ∧ Wd K Pm F M H0 H1 (I (i + 1)) σ2 H2, fun σ2 H2 z => ⟨xs.length - (i + 1), by omega, rfl, z.1, z.2⟩, fun v H2 hy => ?_⟩
      obtain ⟨T, x, rfl, hT, rfl, hx⟩ := hy
      have hx := hx xs hs
      obtain ⟨e, he', re⟩ := rx.getV hx
      obtain ⟨Γ'', tg, hb⟩ := ht i e Γ' M' he' hI
      have S2 := S'.mono (same_new (o := .tup [.int (i : Nat), x]) hT)
      have rt : Rp K (hid (ads M' ++ F) (upd H' T (.tup [.int (i : Nat), x]))) (.ref T) (.stp [.int (i : Nat), e]) := S'.ms.newS hT (.cons (.int _) (.cons (re.mono k') .nil))
      refine tg _ σ' _ _ S2.s rt _ fun σ2 s2 => ?_
      have k2 : Kp F M H1 M' (upd H' T (.tup [.int (i : Nat), x])) := k'.trans (Kp.of (same_new hT))
      exact hb H0 σ2 _ _ ⟨S2.fr, S2.loc, S2.ms, s2⟩ (fun σ3 H3 Γ3 M3 q3 S3 k3 => ⟨hlt, Γ3, M3, q3, S3, k2.trans k3⟩) (fun v σ3 H3 Γ3 d M3 q3 S3 k3 r3 => r v σ3 H3 Γ3 d M3 q3 S3 (((Kp.of e1).trans k2).trans k3) r3)
        (fun σ3 H3 Γ3 M3 q3 S3 k3 => n σ3 H3 Γ3 M3 q3 S3 (((Kp.of e1).trans k2).trans k3)) (fun σ3 H3 Γ3 M3 q3 S3 k3 => ⟨hlt, Γ3, M3, q3, S3, k2.trans k3⟩)
    · have hie : i = ds.length := by rw [← rx.len]; omega
      refine .inl ⟨⟨xs, hs, by omega⟩, ?_⟩
      rw [hie] at hI
      exact n σ' H' Γ' M' (he Γ' M' hI) S' ((Kp.of e1).trans k')
/-- xs.extend(ys) -/
theorem ws_ext {p : Addr} (ho : EvD K F M to Γ (.adr p)) (hin : ∃ ds0, (p, Mv.lst ds0) ∈ M) (h : WpX K Pm F te Γ M fun d M' => ∃ i ds es, d = .lst es ∧ M'[i]? = some (p, .lst ds) ∧ ds.length + es.length ≤ 100000 ∧ P.n Γ (M'.set i (p, .lst (ds ++ es)))) :
    WpS K Pm F (tDrop (tBM K "list" rExtend to (tCons te tNil))) Γ M P := fun H0 σ H D S n r b c =>
  ho σ H S.ms S.s _ fun v H1 e1 r1 => by
    cases r1
    obtain ⟨ds0, h0⟩ := hin
    obtain ⟨xs0, hx0, _⟩ := (S.ms.mono e1).ok _ h0
    refine ⟨.inl ⟨rfl, xs0, .inl (.inl hx0)⟩, h H0 σ H1 (S.mono e1) _ fun w H2 d M2 ⟨i, ds, es, hd, hi, hz, hR⟩ S2 k2 r2 => ?_⟩
    subst hd
    cases r2 with
    | lst hq ry =>
    rename_i q ys
    obtain ⟨xs, hx, rx⟩ := S2.ms.ok _ (List.mem_of_getElem? hi)
    refine ⟨p, q, xs, ys, rfl, rfl, hx, (hid_some hq).2, sz_of (by rw [rx.len, ry.len]; exact hz), ?_⟩
    obtain ⟨S3, k3⟩ := upd_lst (ys := xs ++ ys) (es := ds ++ es) S2 hi (rx.app ry)
    exact n _ _ _ _ hR S3 (((Kp.of e1).trans k2).trans k3)
end
def lexRows : List Str → Nat → Option (List Tk)
  | [], _ => some []
  | r :: rs, i => match lexRow (tl r) i r.length 0, lexRows rs (i + 1) with
    | some a, some b => some (a ++ b)
    | _, _ => none
def lexT (x : Str) : Option (List Tk) := (lexRows (Txt.split x "\n") 0).map (· ++ [⟨"end", "", (Txt.split x "\n").length, 0⟩])
def S_read_tokens (a : Ads) : DS := fun ds M R => ∃ (x : Str) (ts : List Tk), ds = [.str x] ∧ M = [] ∧ x.length ≤ 50000 ∧ (∀ r ∈ Txt.split x "\n", r.length ≤ 50000) ∧ lexT x = some ts ∧ ts.length ≤ 50000 ∧ R (.lst (ts.map (eT a))) []
theorem lexRows_app : ∀ (rs qs : List Str) (i : Nat) (ts : List Tk), lexRows (rs ++ qs) i = some ts → ∃ a b, lexRows rs i = some a ∧ lexRows qs (i + rs.length) = some b ∧ ts = a ++ b
  | [], qs, i, ts, h => ⟨[], ts, rfl, h, rfl⟩
  | r :: rs, qs, i, ts, h => by
    rw [List.cons_append] at h
    simp only [lexRows] at h
    cases h1 : lexRow (tl r) i r.length 0 with
    | none => rw [h1] at h; cases h
    | some u =>
    cases h2 : lexRows (rs ++ qs) (i + 1) with
    | none => rw [h1, h2] at h; cases h
    | some v =>
    rw [h1, h2] at h
    cases h
    obtain ⟨a, b, h3, h4, rfl⟩ := lexRows_app rs qs (i + 1) v h2
    refine ⟨u ++ a, b, ?_, ?_, (List.append_assoc ..).symm⟩
    · simp only [lexRows]
      rw [h1, h3]
    · rw [List.length_cons, show i + (rs.length + 1) = i + 1 + rs.length by omega]
      exact h4
end Dw
namespace Dw
open PySem L2 TL
/-- a method as its callers see it, whatever its parameters -/
structure CalR (P : Program) (w : World) (K : PySem.W.Frag) (mg : Str → Option Value) (base : Heap) (k : Nat) (C : Addr) (m : Str) (sp : Sp) : Prop where
  ex : ∃ f, FnR P w K mg base CX0 k f sp ∧ Meth K C m f
  cl : Cls K C
/-- a method whose last parameter is a star's -/
structure MthS (K : PySem.W.Frag) (C : Addr) (m qual : Str) (st : Stmt) (ps : List Str) (pv : Str) : Prop where
  ex : ∃ f fd, Fun K m qual st f fd ∧ Meth K C m f ∧ ∀ us rest : List Value, us.length = ps.length → bindArgs fd ⟨us ++ rest, []⟩ = (newTuple rest >>= fun t => pure (ps.zip us ++ [(pv, t)]))
section
variable {P : Program} {w : World} {K : PySem.W.Frag} {mg : Str → Option Value} {base : Heap} {k : Nat} {qual m pv : Str} {C : Addr} {st : Stmt} {N ps : List Str} {sp : Sp}
theorem MthS.cal (D : MthS K C m qual st ps pv) (hc : Cls K C) (S : FnScope N (ps ++ [pv]) (defScope st))
    (hbody : ∀ (f : Addr) (cdv : Value) (A : Around) (outer : List Env) (s : Shared) (H : Hp) (vs : List V) (Q : VK) (E : XK), Room k (A.deeper (PyProof.Rows.envOfC qual (defScope st) s.heap.objs.size f cdv)) → sp vs H Q E →
      ∃ t, PSs (cxOf CX0 P w K mg base N qual (defScope st) f cdv A outer s H E).nox (defBody st) t ∧ t { nx := fun _ H' => Q .non H', rt := Q } (L2.start N vs) H) :
    CalR P w K mg base (k + 1) C m (fun vs H Q E => ∃ ws rest, vs = ws ++ rest ∧ ws.length = ps.length ∧ rest.length ≤ sizeLine ∧ ∀ p, H p = none → sp (ws ++ [V.ref p]) (upd H p (.tup rest)) Q E) := by
  obtain ⟨f, fd, F, hm, hb⟩ := D.ex
  obtain ⟨oc, od, kV, doc, pm, an, cdv, ct, osl, rfl, lk, hcd⟩ := F.ex
  refine ⟨⟨f, StX.fn_star lk hcd S StX.cxUp_none hb fun A outer s H vs Q E hr hsp => ?_, hm⟩, hc⟩
  obtain ⟨t, h, q⟩ := hbody f cdv A outer s H vs Q E hr hsp
  exact ⟨t, h.nox, q⟩
end
section
variable {X : Cx} {k : Nat} {m : Str} {C : Addr} {ps : List Str} {sp : Sp} {pos apos : Pos} {e o : Expr} {es : List Expr} {t : TA} {te : TE}
theorem CalM.raw {P : Program} {w : World} {K : PySem.W.Frag} {mg : Str → Option Value} {base : Heap} (c : CalM P w K mg base k C m ps sp) : CalR P w K mg base k C m (fun vs H Q E => sp (vs ++ []) H Q E) := by
  obtain ⟨f, fd, F, hm, hb⟩ := c.ex
  exact ⟨⟨f, F.raw hb .nil, hm⟩, c.cl⟩
theorem pe_mthR {pl : Sem Bool} (c : CalR X.prog X.w X.K X.mg X.base k C m sp) (hr : Room k X.A) (he : PE X o te) (ha : PA X (e :: es) t)
    (hst : starEach (e :: es) X.env = (false, eval e X.env) :: starEach es X.env := by rfl) (hpl : (backTo pos (starEach es X.env)).any (·.1) = false := by rfl)
    (ht : eval (.Call (.Attribute o m apos) (e :: es) [] pos) X.env = (do
      let ov ← eval o X.env
      standAt apos.atName
      let (f, first) ← holding [ov] (getMethod ov m pl)
      callWith pos f first (backTo pos (starEach (e :: es) X.env)) (backToKw pos (keywordEach [] X.env))) := by rfl) :
    PE X (.Call (.Attribute o m apos) (e :: es) [] pos) (tMethR C m sp E0 te t) := by
  obtain ⟨f, F, hm⟩ := c.ex
  exact pe_methR he c.cl hm F hr pass0 ha hst hpl ht
end
section
variable {K : PySem.W.Frag} {Pm F : List Addr} {M : Mu} {Γ : Ga} {ta tb te tl' to : TE} {x y z d : Dv} {t u : TT} {R : Dv → Mu → Prop} {H0 H H' : Hp} {σ : L2.St} {P : Po}
/-- o.m(..), o the i-th mutable object: a plain method -/
theorem wx_meth {C p : Addr} {m : Str} {n : Nat} {Sp : DS} {E : XK} {tA : TA} {gs : List (Str × Dv)} (i : Nat) (ho : EvD K F M to Γ (.adr p)) (hi : M[i]? = some (p, .ins C gs)) (hm : gs.lookup m = none)
    (h : WpA K Pm F tA Γ M fun ds M' => ds.length + 1 = n ∧ ∃ gs', M'[i]? = some (p, .ins C gs') ∧ Sp (.adr p :: ds) [(p, .ins C gs')] fun d M2 => ∃ N m', M2 = N ++ [(p, m')] ∧ R d (N ++ M'.set i (p, m'))) :
    WpX K Pm F (tMeth C m (spD K n Sp) [] E to tA) Γ M R := fun H0 σ H S Q q =>
  ho σ H S.ms S.s _ fun v H1 e1 r1 => by
    cases r1
    have S1 := S.mono e1
    obtain ⟨dx, fs, hx, rx⟩ := S1.ms.ok _ (List.mem_of_getElem? hi)
    refine ⟨p, dx, fs, rfl, hx, rx.none hm, h H0 σ H1 S1 _ fun vs H2 ds M2 ⟨hn, gs', hi', hs⟩ S2 k2 r2 => ?_⟩
    rw [List.append_nil]
    exact S2.call1 (.cons (.adr p) r2) hn hi' hs fun v H' d M' hR S' k' r' => q v H' d M' hR S' (((Kp.of e1).trans k2).trans k') r'
/-- a promise of a def with a star parameter -/
abbrev spStar (K : PySem.W.Frag) (n : Nat) (Sp : DS) : L2.Sp := fun vs H Q E => ∃ ws rest, vs = ws ++ rest ∧ ws.length = 1 ∧ rest.length ≤ sizeLine ∧ ∀ p, H p = none → spD K n Sp (ws ++ [V.ref p]) (upd H p (.tup rest)) Q E
theorem wx_methS {C p : Addr} {m : Str} {Sp : DS} {E : XK} {tA : TA} {gs : List (Str × Dv)} (i : Nat) (ho : EvD K F M to Γ (.adr p)) (hi : M[i]? = some (p, .ins C gs)) (hm : gs.lookup m = none)
    (h : WpA K Pm F tA Γ M fun ds M' => ds.length ≤ 1000 ∧ ∃ gs', M'[i]? = some (p, .ins C gs') ∧ Sp [.adr p, .stp ds] [(p, .ins C gs')] fun d M2 => ∃ N m', M2 = N ++ [(p, m')] ∧ R d (N ++ M'.set i (p, m'))) :
    WpX K Pm F (tMethR C m (spStar K 2 Sp) E to tA) Γ M R := fun H0 σ H S Q q =>
  ho σ H S.ms S.s _ fun v H1 e1 r1 => by
    cases r1
    have S1 := S.mono e1
    obtain ⟨dx, fs, hx, rx⟩ := S1.ms.ok _ (List.mem_of_getElem? hi)
    refine ⟨p, dx, fs, rfl, hx, rx.none hm, h H0 σ H1 S1 _ fun vs H2 ds M2 ⟨hz, gs', hi', hs⟩ S2 k2 r2 => ?_⟩
    refine ⟨[.ref p], vs, rfl, rfl, sz_of (by rw [r2.len]; omega), fun b hb => ?_⟩
    have S3 := S2.mono (same_new (o := .tup vs) hb)
    exact S3.call1 (.cons (.adr p) (.cons (S2.ms.newS hb r2) .nil)) rfl hi' hs fun v H' d M' hR S' k' r' => q v H' d M' hR S' ((((Kp.of e1).trans k2).trans (Kp.of (same_new hb))).trans k') r'
end
end Dw
namespace Dw
open PySem L2 TL
section
variable {K : PySem.W.Frag} {Pm F : List Addr} {M : Mu} {Γ : Ga} {ta tb tc te tl' to : TE} {x y z d : Dv} {t u : TT} {R : Dv → Mu → Prop} {H0 H H' : Hp} {σ : L2.St} {P : Po}
theorem ed_chain {r r' : R2} {k k' : Bool} (ha : EvD K F M ta Γ x) (hb : EvD K F M tb Γ y) (hr : OpD K F M r x y (.bl k)) (hc : k = true → EvD K F M tc Γ z) (hr' : k = true → OpD K F M r' y z (.bl k')) : EvD K F M (tChain r r' ta tb tc) Γ (.bl (k && k')) := fun σ H m s Q q =>
  ha σ H m s _ fun v H1 e1 r1 => hb σ H1 (m.mono e1) (s.mono e1) _ fun w H2 e2 r2 => hr v w H2 ((m.mono e1).mono e2) (r1.mono (hid_same e2)) r2 _ fun u H3 e3 r3 => by
    cases r3
    refine ⟨k, rfl, ?_⟩
    have e13 := (e1.trans e2).trans e3
    cases k with
    | true => exact iteT (hc rfl σ H3 (m.mono e13) (s.mono e13) _ fun w' H4 e4 r4 => hr' rfl w w' H4 ((m.mono e13).mono e4) (r2.mono (hid_same (e3.trans e4))) r4 Q fun u' H5 e5 r5 => q u' H5 ((e13.trans e4).trans e5) r5)
    | false => exact iteF (q _ H3 e13 (.bl _))
/-- o.f += e -/
theorem ws_fldaug {C p : Addr} {f : Str} {gs : List (Str × Dv)} {j : Int} (i : Nat) (ho : EvD K F M to Γ (.adr p)) (hi : M[i]? = some (p, .ins C gs)) (hc : Cls K C) (hn : NoAttr K C f) (hl : gs.lookup f = some (.int j)) (hz : gs.length < 1000) {b : Int} (h : EvD K F M te Γ (.int b))
    (k : P.n Γ (M.set i (p, .ins C (putD f (.int (j + b)) gs)))) : WpS K Pm F (sFldAug K to te rAdd f) Γ M P := fun H0 σ H D S n r b' c =>
  ho σ H S.ms S.s _ fun v H1 e1 r1 => by
    cases r1
    have S1 := S.mono e1
    obtain ⟨dx, fs, hx, rx⟩ := S1.ms.ok _ (List.mem_of_getElem? hi)
    obtain ⟨u, hu, ru⟩ := rx.get hl
    cases ru
    refine ⟨p, C, dx, fs, _, rfl, hx, hc, hn, hu, h σ H1 S1.ms S1.s _ fun w H2 e2 r2 => ?_⟩
    cases r2
    have S2 := S1.mono e2
    refine ⟨j, b, rfl, rfl, dx, fs, e2 _ _ hx, by rw [rx.len]; exact hz, ?_⟩
    have hp : p ∈ ads M ++ F := List.mem_append_left _ (List.mem_map.mpr ⟨_, List.mem_of_getElem? hi, rfl⟩)
    have hk : Same (hid (ads M ++ F) H2) (hid (ads M ++ F) (upd H2 p (.ins C dx (putF f (.int (j + b)) fs)))) := fun a o q => by
      obtain ⟨m, z⟩ := hid_some q
      rw [hid_out m, upd_ne (fun z => m (by rw [z]; exact hp))]
      exact z
    obtain ⟨S3, k3⟩ := S2.upd1 (H' := upd H2 p (.ins C dx (putF f (.int (j + b)) fs))) (m' := .ins C (putD f (.int (j + b)) gs)) hi (fun a o ne q => by rw [upd_ne ne]; exact q) ⟨dx, _, upd_same, RpF.mono hk (RpF.put (.int _) (RpF.mono (hid_same e2) rx))⟩
    exact n _ _ _ _ k S3 ((Kp.of (e1.trans e2)).trans k3)
/-- t.index(x), t a tuple of texts of the top -/
def rTix (K : PySem.W.Frag) : V → List V → Hp → VK → Prop := fun x xs H Q => ∃ p, ∃ ys : List Str, ∃ z j, x = .ref p ∧ xs = [.str z] ∧ SqT K H p (ys.map V.str) ∧ ys[j]? = some z ∧ (∀ m, m < j → ys[m]? ≠ some z) ∧ Q (.int (j : Nat)) H
theorem mt_tix {X : Cx} (hK : X.K = K) : MtR X "tuple.index" (rTix K) := hK ▸ mt_tup_index
theorem wx_tix {ys : List Str} (h : WpX K Pm F te Γ M fun d M' => ∃ z j, d = .str z ∧ ys[j]? = some z ∧ (∀ m, m < j → ys[m]? ≠ some z) ∧ R (.int (j : Nat)) M') : WpX K Pm F (tBM K "tuple" (rTix K) (tGT K (ys.map Dv.str)) (tCons te tNil)) Γ M R := fun H0 σ H S Q q a ha hty =>
  ⟨hty H, h H0 σ H S _ fun v H1 d M1 ⟨z, j, hd, h1, h2, hR⟩ S1 k1 r1 => by
    subst hd
    cases r1
    have := ha H1
    cases this with
    | tup hq rx =>
      have := RpL.strs_of rx
      subst this
      exact ⟨a, ys, z, j, rfl, rfl, hq.1, h1, h2, q _ H1 _ M1 hR S1 k1 (.int _)⟩⟩
def rNinG (K : PySem.W.Frag) : R2 := fun x y H Q => rIn K true x y H Q ∨ rNotInD K x y H Q
theorem op_ninG {X : Cx} (hK : X.K = K) (hu : X.A.units + 65 < cLine) : OpR X (compareOp .NotIn) (rNinG K) := hK ▸ op_notIn_seq.or (op_notInD hu)
theorem od_ninT {s : Str} {ys : List Str} : OpD K F M (rNinG K) (.str s) (.tup (ys.map Dv.str)) (.bl (!decide (s ∈ ys))) := fun v w H m r1 r2 Q q => by
  cases r1
  cases r2 with
  | tup h2 r2 =>
    have := RpL.strs_of r2
    subst this
    refine .inl ⟨_, _, rfl, .inr (sqT_hid h2.1), rfl, ?_, ?_⟩
    · rw [List.all_eq_true]
      intro x hx
      obtain ⟨y, _, rfl⟩ := List.mem_map.mp hx
      rfl
    · rw [inV_strs]
      exact q _ H (Same.refl H) (.bl _)
theorem od_ninS {s : Str} {ys : List Str} : OpD K F M (rNinG K) (.str s) (.stp (ys.map Dv.str)) (.bl (!decide (s ∈ ys))) := fun v w H m r1 r2 Q q => by
  cases r1
  cases r2 with
  | stp h2 r2 =>
    have := RpL.strs_of r2
    subst this
    refine .inl ⟨_, _, rfl, .inr (sqT_hid h2), rfl, ?_, ?_⟩
    · rw [List.all_eq_true]
      intro x hx
      obtain ⟨y, _, rfl⟩ := List.mem_map.mp hx
      rfl
    · rw [inV_strs]
      exact q _ H (Same.refl H) (.bl _)
end
/-- the parser's state -/
structure Pst where
  ts : List Tk
  i : Nat
  f : Dv
  w : Nat
def eS (a : Ads) (s : Pst) : List (Str × Dv) := [("tokens", .lst (s.ts.map (eT a))), ("at", .int s.i), ("fault", s.f), ("wrap", .int s.w)]
abbrev pS (a : Ads) (p : Addr) (s : Pst) : Mu := [(p, .ins a.parser (eS a s))]
def S_Parser_init (a : Ads) : DS := fun ds M R => ∃ (p : Addr) (ts : List Tk), ds = [.adr p, .lst (ts.map (eT a))] ∧ M = [(p, .ins a.parser [])] ∧ R .non (pS a p ⟨ts, 0, .non, 0⟩)
def S_Parser_sees (a : Ads) : DS := fun ds M R => ∃ (p : Addr) (k : Str) (s : Pst) (t : Tk), ds = [.adr p, .str k] ∧ M = pS a p s ∧ s.ts[s.i]? = some t ∧ R (.bl (decide (t.kd = k))) (pS a p s)
def S_Parser_take (a : Ads) : DS := fun ds M R => ∃ (p : Addr) (ks : List Str) (s : Pst) (t : Tk), ds = [.adr p, .stp (ks.map Dv.str)] ∧ M = pS a p s ∧ s.ts[s.i]? = some t ∧ t.kd ∈ ks ∧ R (eT a t) (pS a p { s with i := s.i + 1 })
def S_Parser_read_number (a : Ads) : DS := fun ds M R => ∃ (p : Addr) (r : Str) (lo hi : Int) (s : Pst) (t : Tk) (n : Nat), ds = [.adr p, .str r, .int lo, .int hi] ∧ M = pS a p s ∧ s.ts[s.i]? = some t ∧ t.kd = "number" ∧ t.tx = num n ∧ n < 1000 ∧ lo ≤ n ∧ n ≤ hi ∧ R (.int n) (pS a p { s with i := s.i + 1 })
def S_Parser_read_letter (a : Ads) : DS := fun ds M R => ∃ (p : Addr) (s : Pst) (t : Tk) (r : Nat), ds = [.adr p] ∧ M = pS a p s ∧ s.ts[s.i]? = some t ∧ t.kd = "letter" ∧ t.tx = mk (regL r) ∧ r < 4 ∧ R (.int r) (pS a p { s with i := s.i + 1 })
def S_Parser_read_value (a : Ads) : DS := fun ds M R => ∃ (p : Addr) (s : Pst) (t : Tk) (n : Nat), ds = [.adr p] ∧ M = pS a p s ∧ s.ts[s.i]? = some t ∧ t.kd = "number" ∧ t.tx = num n ∧ n < 1000 ∧ n < s.w ∧ R (.int n) (pS a p { s with i := s.i + 1 })
def S_Parser_read_depth (a : Ads) : DS := fun ds M R => ∃ (p : Addr) (s : Pst) (t : Tk) (n : Nat), ds = [.adr p] ∧ M = pS a p s ∧ s.ts[s.i]? = some t ∧ t.kd = "number" ∧ t.tx = num n ∧ n ≤ 9 ∧ R (.int n) (pS a p { s with i := s.i + 1 })
end Dw
namespace Dw
open PySem L2 TL
section
variable {K : PySem.W.Frag} {Pm F : List Addr} {M : Mu} {Γ : Ga} {ta tb tc te tl' to : TE} {x y z d : Dv} {t u : TT} {R : Dv → Mu → Prop} {H0 H H' : Hp} {σ : L2.St} {P : Po}
theorem wx_fldI {f : Str} (h : WpX K Pm F te Γ M fun d M' => ∃ C gs x, d = .ins C gs ∧ Cls K C ∧ NoAttr K C f ∧ gs.lookup f = some x ∧ R x M') : WpX K Pm F (tFld K te f) Γ M R := fun H0 σ H S Q q =>
  h H0 σ H S _ fun v H1 d M1 ⟨C, gs, x, hd, hc, hn, hl, hR⟩ S1 k1 r1 => by
    subst hd
    cases r1 with
    | ins h1 r1 =>
      obtain ⟨u, hu, ru⟩ := r1.get hl
      exact ⟨_, C, _, _, u, rfl, (hid_some h1).2, hc, hn, hu, q u H1 x M1 hR S1 k1 ru⟩
end
end Dw
namespace Dw
open PySem L2 TL
section
variable {K : PySem.W.Frag} {Pm F : List Addr} {M : Mu} {Γ : Ga} {ta tb tc te tl' to : TE} {x y z d : Dv} {t u : TT} {R : Dv → Mu → Prop} {RT : Bool → Mu → Prop} {H0 H H' : Hp} {σ : L2.St} {P : Po}
theorem wx_newL {tA : TA} (h : WpA K Pm F tA Γ M fun ds M' => ds.length ≤ 100000 ∧ ∀ p, p ∉ ads M' ++ F → R (.adr p) ((p, .lst ds) :: M')) : WpX K Pm F (tLst tA) Γ M R := fun H0 σ H S Q q =>
  h H0 σ H S _ fun vs H1 ds M1 ⟨hl, hR⟩ S1 k1 r1 => ⟨sz_of (by rw [r1.len]; exact hl), fun p hp => by
    obtain ⟨S2, k2⟩ := S1.newM hp (same_new hp) upd_same (r1.mono (hid_new hp))
    exact q _ _ _ _ (hR p (S1.ms.fresh hp)) S2 (k1.trans k2) (.adr p)⟩
theorem wt_tru (h : WpX K Pm F te Γ M fun d M' => ∃ b, d = .bl b ∧ RT b M') : WpT K Pm F (tTru K te) Γ M RT := fun H0 σ H S Q q => h H0 σ H S _ fun v H1 d M1 ⟨b, e, hR⟩ S1 k1 r1 => by
  subst e
  cases r1
  exact ⟨_, rfl, q b H1 M1 hR S1 k1⟩
def rTupleG (K : PySem.W.Frag) : List V → Hp → VK → Prop := fun xs H Q => ∃ p ys, xs = [.ref p] ∧ ((SqL K H p ys ∧ ∀ l, H l = none → ∀ o, NdO o → Q (.ref l) (upd H l (.frz o (.tup ys)))) ∨ (SqT K H p ys ∧ Q (.ref p) H))
theorem call_tupleG {X : Cx} (hK : X.K = K) : CallR X (.type "tuple") (rTupleG K) := hK ▸ call_tupleF
theorem cd_tupL {ds : List Dv} : CaD K F M (rTupleG K) [.lst ds] (.tup ds) := fun vs H m r Q q => by
  cases r with
  | cons r1 r2 =>
  cases r2
  cases r1 with
  | lst h1 ry => exact ⟨_, _, rfl, .inl ⟨.inl (.inl (hid_some h1).2), fun l hl o z => q _ _ (same_new hl) (m.newT hl z ry)⟩⟩
theorem od_inL {s : Str} {ys : List Str} : OpD K F M (rInG K) (.str s) (.lst (ys.map Dv.str)) (.bl (decide (s ∈ ys))) := fun v w H m r1 r2 Q q => by
  cases r1
  cases r2 with
  | lst h2 r2 =>
    have := RpL.strs_of r2
    subst this
    refine .inr (.inl ⟨_, _, rfl, .inl (.inl (.inl (hid_some h2).2)), rfl, ?_, ?_⟩)
    · rw [List.all_eq_true]
      intro x hx
      obtain ⟨y, _, rfl⟩ := List.mem_map.mp hx
      rfl
    · rw [inV_strs]
      exact q _ H (Same.refl H) (.bl _)
/-- [e for x in xs], xs mutable -/
theorem en_lcM {j i : Nat} {p : Addr} {ds rs : List Dv} (h : EvD K F M tl' Γ (.adr p)) (hi : M[i]? = some (p, .lst ds)) (hz : ds.length ≤ 60000) (hlen : rs.length = ds.length)
    (hg : ∀ (i : Nat) e r, ds[i]? = some e → rs[i]? = some r → ∀ Dl, EvD K (Dl :: F) M te (Γ.set j (some e)) r) :
    EvN K F M (tLc (iList K tl') (gName j) tYes te [j]) Γ rs := fun σ H m s Q q => h σ H m s _ fun v H1 e1 r1 => by
  cases r1
  have m1 := m.mono e1
  have s1 := s.mono e1
  obtain ⟨xs, hx, rx⟩ := m1.ok _ (List.mem_of_getElem? hi)
  have hq : SqL K H1 p xs := .inl (.inl hx)
  refine ⟨p, rfl, ⟨xs, hq⟩, fun Dl hD => ?_⟩
  refine lc_list (xs := xs) (fun i => Lcs K F M H1 Dl (rs.take i)) ⟨same_new hD, [], upd_same, .nil⟩ (fun i H' _ c => c.e.seq hq) (fun i x H' hx c => ?_) fun H' c => ?_
  · obtain ⟨e, he, re⟩ := rx.getV hx
    have hi := (List.getElem?_eq_some_iff.mp he).1
    have hr : rs[i]? = some rs[i] := by simp [hlen, hi]
    refine ⟨wipe_one σ j x, c.turn (b := true) (g := rs[i]) hD m1 s1 re ?_ et_yes (fun _ => hg i e _ he hr Dl) ?_⟩
    · rw [List.length_take]; omega
    · rw [List.take_succ, hr]
      rfl
  · rw [rx.len, ← hlen, List.take_length] at c
    obtain ⟨ys, hy, ry⟩ := c.l
    exact q Dl H' ys (none_back e1 hD) (e1.trans c.e) hy ry
end
abbrev W2 := Str × Str
abbrev w2 (x : Str) : W2 := (x, x)
def actT : Ac → List W2
  | .add r n => [("add", "add"), ("letter", mk (regL r)), ("number", num n)]
  | .copy r s => [("copy", "copy"), ("letter", mk (regL r)), ("letter", mk (regL s))]
  | .swap r s => [("swap", "swap"), ("letter", mk (regL r)), ("letter", mk (regL s))]
  | .emr r => [("emit", "emit"), ("letter", mk (regL r))]
  | .emn n => [("emit", "emit"), ("number", num n)]
def putT : Pu → List W2
  | .num n => [("number", num n)]
  | .reg r => [("letter", mk (regL r))]
  | .cho r m n => [("letter", mk (regL r)), ("?", "?"), ("number", num m), (":", ":"), ("number", num n)]
def actsT : List Ac → List W2
  | [] => []
  | [a] => actT a
  | a :: b :: r => actT a ++ (w2 "," :: actsT (b :: r))
def cardT (c : Cd) : List W2 := ("name", c.nm) :: w2 ":" :: (actsT c.ac ++ (w2 "->" :: (putT c.pu ++ [w2 ";"])))
def deckT (d : Dk) : List W2 := w2 "wrap" :: ("number", num d.w) :: w2 ";" :: ((d.cs.map cardT).flatten ++ [(("end", "") : W2)])
def pA : Ac → Dv
  | .add r n => .tup [.int 0, .int r, .int n]
  | .copy r s => .tup [.int 1, .int r, .int s]
  | .swap r s => .tup [.int 2, .int r, .int s]
  | .emr r => .tup [.int 3, .int r]
  | .emn n => .tup [.int 4, .int n]
def pP : Pu → Dv
  | .num n => .tup [.int 0, .int n]
  | .reg r => .tup [.int 1, .int r]
  | .cho r m n => .tup [.int 2, .int r, .int m, .int n]
def pC (a : Ads) (c : Cd) : Dv := .ins a.card [("name", .str c.nm), ("actions", .tup (c.ac.map pA)), ("put", pP c.pu)]
/-- from i on the tokens begin so -/
def At (ts : List Tk) (i : Nat) (ws : List W2) : Prop := ∃ rest, (ts.drop i).map (fun t => (t.kd, t.tx)) = ws ++ rest
theorem At.hd {ts : List Tk} {i : Nat} {k x : Str} {ws : List W2} (h : At ts i ((k, x) :: ws)) : ∃ t, ts[i]? = some t ∧ t.kd = k ∧ t.tx = x ∧ At ts (i + 1) ws := by
  obtain ⟨rest, h⟩ := h
  cases hd : ts.drop i with
  | nil => rw [hd] at h; cases h
  | cons t us =>
    rw [hd] at h
    obtain ⟨h1, h2⟩ := List.cons.inj h
    have hi : ts[i]? = some t := by rw [← List.head?_drop, hd]; rfl
    refine ⟨t, hi, congrArg Prod.fst h1, congrArg Prod.snd h1, rest, ?_⟩
    rw [← List.drop_drop, hd]
    exact h2
theorem At.pre {ts : List Tk} {i : Nat} {ws vs : List W2} (h : At ts i (ws ++ vs)) : At ts i ws := by
  obtain ⟨rest, h⟩ := h
  exact ⟨vs ++ rest, by rw [h, List.append_assoc]⟩
theorem At.post : ∀ {ws : List W2} {ts : List Tk} {i : Nat} {vs : List W2}, At ts i (ws ++ vs) → At ts (i + ws.length) vs
  | [], _, _, _, h => h
  | (k, x) :: ws, ts, i, vs, h => by
    obtain ⟨t, _, _, _, h⟩ := At.hd h
    have := At.post h
    rw [List.length_cons, show i + (ws.length + 1) = i + 1 + ws.length by omega]
    exact this
def S_Parser_read_action (a : Ads) : DS := fun ds M R => ∃ (p : Addr) (s : Pst) (c : Ac), ds = [.adr p] ∧ M = pS a p s ∧ s.w ≤ 1000 ∧ c.ok s.w ∧ At s.ts s.i (actT c) ∧ R (pA c) (pS a p { s with i := s.i + (actT c).length })
def S_Parser_read_put (a : Ads) : DS := fun ds M R => ∃ (p : Addr) (s : Pst) (c : Pu), ds = [.adr p] ∧ M = pS a p s ∧ c.ok ∧ At s.ts s.i (putT c ++ [w2 ";"]) ∧ R (pP c) (pS a p { s with i := s.i + (putT c).length })
def S_Parser_read_actions (a : Ads) : DS := fun ds M R => ∃ (p : Addr) (s : Pst) (c : List Ac), ds = [.adr p] ∧ M = pS a p s ∧ s.w ≤ 1000 ∧ (∀ e ∈ c, e.ok s.w) ∧ c ≠ [] ∧ c.length ≤ 6 ∧ At s.ts s.i (actsT c ++ [w2 "->"]) ∧ R (.lst (c.map pA)) (pS a p { s with i := s.i + (actsT c).length })
def S_Card_init (a : Ads) : DS := fun ds M R => ∃ (p : Addr) (x y z : Dv), ds = [.adr p, x, y, z] ∧ M = [(p, .ins a.card [])] ∧ R .non [(p, .ins a.card [("name", x), ("actions", y), ("put", z)])]
def S_Parser_read_card (a : Ads) : DS := fun ds M R => ∃ (p : Addr) (s : Pst) (c : Cd) (ns : List Str), ds = [.adr p, .lst (ns.map Dv.str)] ∧ M = pS a p s ∧ s.w ≤ 1000 ∧ c.ok s.w ∧ ns.length < 8 ∧ c.nm ∉ ns ∧ At s.ts s.i (cardT c) ∧ R (pC a c) (pS a p { s with i := s.i + (cardT c).length })
end Dw
namespace Dw
open PySem L2 TL
/-- a key as data -/
def dK : Key → Dv
  | .inl i => .int i
  | .inr x => .str x
section
variable {K : PySem.W.Frag} {Pm F : List Addr} {M : Mu} {Γ : Ga} {ta tb tc te tk tv tl' to : TE} {x y z d : Dv} {t u : TT} {R : Dv → Mu → Prop} {RT : Bool → Mu → Prop} {H0 H H' : Hp} {σ : L2.St} {P : Po}
theorem rp_key {k : Key} {v : V} (r : Rp K H v (dK k)) : v = kV k := by
  cases k with
  | inl i => cases r; rfl
  | inr x => cases r; rfl
theorem RpK.len : ∀ {v : List (Key × V)} {d : List (Key × Dv)}, RpK K H v d → v.length = d.length
  | _, _, .nil => rfl
  | _, _, .cons _ r => congrArg Nat.succ r.len
theorem RpK.app : ∀ {v v' : List (Key × V)} {d d' : List (Key × Dv)}, RpK K H v d → RpK K H v' d' → RpK K H (v ++ v') (d ++ d')
  | _, _, _, _, .nil, r => r
  | _, _, _, _, .cons h t, r => .cons h (t.app r)
theorem RpK.keys : ∀ {v : List (Key × V)} {d : List (Key × Dv)}, RpK K H v d → v.map (·.1) = d.map (·.1)
  | _, _, .nil => rfl
  | _, _, .cons (f := k) h r => congrArg (k :: ·) r.keys
theorem putK_new {k : Key} {v : V} {kvs : List (Key × V)} (h : k ∉ kvs.map (·.1)) : putK kvs k v = kvs ++ [(k, v)] := by
  unfold putK
  rw [if_neg]
  rw [List.any_eq_true]
  rintro ⟨e, he, hk⟩
  exact h (List.mem_map.mpr ⟨e, he, of_decide_eq_true hk⟩)
def valD (kvs : List (Key × Dv)) (k : Key) : Option Dv := (kvs.find? fun kv => decide (kv.1 = k)).map (·.2)
theorem valD_pos {p : Key × Dv} {r : List (Key × Dv)} {k : Key} (e : p.1 = k) : valD (p :: r) k = some p.2 := by simp [valD, List.find?_cons, e]
theorem valD_neg {p : Key × Dv} {r : List (Key × Dv)} {k : Key} (e : ¬ p.1 = k) : valD (p :: r) k = valD r k := by simp [valD, List.find?_cons, e]
theorem RpK.get : ∀ {v : List (Key × V)} {d : List (Key × Dv)} {k : Key} {e : Dv}, RpK K H v d → valD d k = some e → ∃ u, valV v k = some u ∧ Rp K H u e
  | _, _, _, _, .nil, h => by cases h
  | _, _, k, e, .cons (f := k') (v := u) (vs := vs) (d := d0) h r, hl => by
    by_cases hk : k' = k
    · rw [valD_pos (p := (k', d0)) hk] at hl
      cases hl
      exact ⟨u, valV_pos (p := (k', u)) hk, h⟩
    · rw [valD_neg (p := (k', d0)) hk] at hl
      obtain ⟨w, h1, h2⟩ := RpK.get r hl
      exact ⟨w, by rw [valV_neg (p := (k', u)) hk]; exact h1, h2⟩
theorem dc_list {a : Addr} {xs : List V} {g : TG} {tt : TT} {vs : List Nat} {H1 : Hp} {D : Addr} {Qd : Hp → Prop} (Pv : Nat → Hp → Prop) (h0 : Pv 0 (upd H1 D (.dK []))) (hl : ∀ i H, i ≤ xs.length → Pv i H → SqL K H a xs)
    (hs : ∀ i x H, xs[i]? = some x → Pv i H → g x (wipe σ vs) H fun σ2 H2 => wipe σ2 vs = wipe σ vs ∧ tt σ2 H2 fun b H3 =>
      if b = true then tk σ2 H3 fun y H4 => tv σ2 H4 fun z H5 => ∃ kvs k, y = kV k ∧ H5 D = some (.dK kvs) ∧ kvs.length < sizeLine ∧ Pv (i + 1) (upd H5 D (.dK (putK kvs k z))) else Pv (i + 1) H3) (hd : ∀ H, Pv xs.length H → Qd H) :
    ∃ W : Nat → Nat → Hp → Prop, (∃ m, W 0 m (upd H1 D (.dK []))) ∧ ∀ i m H, W i m H →
      ((Itl K a).stop i H ∧ Qd H) ∨ ((Itl K a).go i H ∧ ∃ Nx : Hp → Prop, (∀ H', Nx H' → ∃ m', m' < m ∧ W (i + 1) m' H') ∧ ∀ x H', (Itl K a).yld i H x H' → g x (wipe σ vs) H' fun σ2 H2 => wipe σ2 vs = wipe σ vs ∧ tt σ2 H2 fun b H3 =>
        if b = true then tk σ2 H3 fun y H4 => tv σ2 H4 fun z H5 => ∃ kvs k, y = kV k ∧ H5 D = some (.dK kvs) ∧ kvs.length < sizeLine ∧ Nx (upd H5 D (.dK (putK kvs k z))) else Nx H3) := by
  refine ⟨fun i m H => m = xs.length - i ∧ i ≤ xs.length ∧ Pv i H, ⟨xs.length, by simp, Nat.zero_le _, h0⟩, ?_⟩
  rintro i m H ⟨rfl, hi, p⟩
  have q := hl i H hi p
  by_cases hlt : i < xs.length
  · refine .inr ⟨⟨xs, xs[i], q, by simp [hlt]⟩, Pv (i + 1), fun H' p' => ⟨xs.length - (i + 1), by omega, rfl, hlt, p'⟩, fun x H' y => ?_⟩
    obtain ⟨e, y⟩ := y
    subst e
    exact hs i x _ (y xs q) p
  · have e : i = xs.length := by omega
    subst e
    exact .inl ⟨⟨xs, q, Nat.le_refl _⟩, hd H p⟩
structure Dcs (K : PySem.W.Frag) (F : List Addr) (M : Mu) (H1 : Hp) (Dl : Addr) (acc : List (Key × Dv)) (H' : Hp) : Prop where
  e : Same H1 H'
  l : ∃ xs, H' Dl = some (.dK xs) ∧ RpK K (hid (Dl :: (ads M ++ F)) H') xs acc
theorem Dcs.keep {H1 : Hp} {Dl : Addr} {acc : List (Key × Dv)} (hD : H1 Dl = none) (c : Dcs K F M H1 Dl acc H') : Same (hid (ads M ++ F) H1) (hid (ads M ++ Dl :: F) H') := fun a o q => by
  obtain ⟨n, z⟩ := hid_some q
  have ne : a ≠ Dl := ne_of_none z hD
  have : a ∉ ads M ++ Dl :: F := fun m => by
    rcases List.mem_append.mp m with m | m
    · exact n (List.mem_append_left _ m)
    · rcases List.mem_cons.mp m with m | m
      · exact ne m
      · exact n (List.mem_append_right _ m)
  rw [hid_out this]
  exact c.e a o z
theorem Dcs.ms {H1 : Hp} {Dl : Addr} {acc : List (Key × Dv)} (hD : H1 Dl = none) (m : Ms K F M H1) (c : Dcs K F M H1 Dl acc H') : Ms K (Dl :: F) M H' := by
  have hn := m.fresh hD
  refine ⟨fun q hq => (m.ok q hq).keep (c.keep hD) fun o => c.e _ o, m.nd, fun a ha => ?_, fun a ha hm => ?_⟩
  · rcases List.mem_cons.mp ha with z | z
    · obtain ⟨xs, hx, _⟩ := c.l
      rw [z]; exact ⟨_, hx⟩
    · obtain ⟨o, w⟩ := m.ff a z
      exact ⟨o, c.e _ _ w⟩
  · rcases List.mem_cons.mp ha with z | z
    · exact hn (List.mem_append_left _ (by rw [← z]; exact hm))
    · exact m.ap a z hm
theorem Dcs.turn {H1 : Hp} {Dl : Addr} {acc : List (Key × Dv)} {j : Nat} {v : V} {e : Dv} {k : Key} {g : Dv} {Z : Hp → Prop} (hD : H1 Dl = none) (m : Ms K F M H1) (s : Sl K (ads M ++ F) H1 σ Γ) (re : Rp K (hid (ads M ++ F) H1) v e) (c : Dcs K F M H1 Dl acc H') (hz : acc.length ≤ 60000)
    (hk : EvD K (Dl :: F) M tk (Γ.set j (some e)) (dK k)) (hg : EvD K (Dl :: F) M tv (Γ.set j (some e)) g) (hn : k ∉ acc.map (·.1)) :
    tYes ((wipe σ [j]).set j (some v)) H' fun b H3 => if b = true then tk ((wipe σ [j]).set j (some v)) H3 fun y H4 => tv ((wipe σ [j]).set j (some v)) H4 fun z H5 => ∃ kvs k0, y = kV k0 ∧ H5 Dl = some (.dK kvs) ∧ kvs.length < sizeLine ∧ Dcs K F M H1 Dl (acc ++ [(k, g)]) (upd H5 Dl (.dK (putK kvs k0 z))) else Z H3 := by
  have m' := c.ms hD m
  have s' : Sl K (ads M ++ Dl :: F) H' ((wipe σ [j]).set j (some v)) (Γ.set j (some e)) := (s.keep (c.keep hD)).own (re.mono (c.keep hD))
  refine et_yes _ H' m' s' _ fun H3 e3 => ?_
  obtain ⟨xs, hx, rx⟩ := c.l
  refine iteT (hk _ H3 (m'.mono e3) (s'.mono e3) _ fun y H4 e4 r4 => ?_)
  have e34 := e3.trans e4
  refine hg _ H4 (m'.mono e34) (s'.mono e34) _ fun z H5 e5 r5 => ?_
  have e35 := e34.trans e5
  refine ⟨xs, k, rp_key r4, e35 _ _ hx, sz_lt (by rw [rx.len]; omega), ?_⟩
  rw [putK_new (by rw [rx.keys]; exact hn)]
  have hkk : Same (hid (Dl :: (ads M ++ F)) H5) (hid (Dl :: (ads M ++ F)) (upd H5 Dl (.dK (xs ++ [(k, z)])))) := fun a o q => by
    obtain ⟨n, z⟩ := hid_some q
    rw [hid_out n, upd_ne (fun w => n (by rw [w]; exact List.mem_cons_self ..))]
    exact z
  refine ⟨fun a o q => ?_, xs ++ [(k, z)], upd_same, ?_⟩
  · rw [upd_ne (ne_of_none q hD)]
    exact e35 _ _ (c.e a o q)
  · rw [swap_hid (l := [])] at r5
    exact ((rx.mono (hid_same e35)).mono hkk).app (.cons (r5.mono hkk) .nil)
/-- {k: v for x in xs} -/
theorem ed_dc {j : Nat} {ds : List Dv} {kz : List (Key × Dv)} (h : EvD K F M tl' Γ (.lst ds)) (hz : ds.length ≤ 60000) (hlen : kz.length = ds.length) (hnd : (kz.map (·.1)).Nodup)
    (hg : ∀ (i : Nat) e r, ds[i]? = some e → kz[i]? = some r → ∀ Dl, EvD K (Dl :: F) M tk (Γ.set j (some e)) (dK r.1) ∧ EvD K (Dl :: F) M tv (Γ.set j (some e)) r.2) :
    EvD K F M (tDc (iList K tl') (gName j) tYes tk tv [j]) Γ (.dic kz) := fun σ H m s Q q => h σ H m s _ fun v H1 e1 r1 => by
  cases r1 with
  | lst hq rx =>
  rename_i a xs
  have m1 := m.mono e1
  have s1 := s.mono e1
  have hq' : SqL K (hid (ads M ++ F) H1) a xs := .inl (.inl hq)
  refine ⟨a, rfl, ⟨xs, (hid_sub _ _).seq hq'⟩, fun Dl hD => ?_⟩
  refine dc_list (xs := xs) (fun i => Dcs K F M H1 Dl (kz.take i)) ⟨same_new hD, [], upd_same, .nil⟩ (fun i H' _ c => c.e.seq ((hid_sub _ _).seq hq')) (fun i x H' hx c => ?_) fun H' c => ?_
  · obtain ⟨e, he, re⟩ := rx.getV hx
    have hi := (List.getElem?_eq_some_iff.mp he).1
    have hr : kz[i]? = some kz[i] := by simp [hlen, hi]
    obtain ⟨h1, h2⟩ := hg i e _ he hr Dl
    refine ⟨wipe_one σ j x, ?_⟩
    have hn : kz[i].1 ∉ (kz.take i).map (·.1) := fun hm => by
      have hs : kz = kz.take i ++ (kz[i] :: kz.drop (i + 1)) := by
        rw [← List.drop_eq_getElem_cons (by omega), List.take_append_drop]
      have hnd : (((kz.take i ++ (kz[i] :: kz.drop (i + 1))).map (·.1))).Nodup := by rw [← hs]; assumption
      rw [List.map_append, List.map_cons] at hnd
      exact (List.nodup_append.mp hnd).2.2 _ hm _ (List.mem_cons_self ..) rfl
    have ht : kz.take (i + 1) = kz.take i ++ [(kz[i].1, kz[i].2)] := by rw [List.take_succ, hr]; rfl
    have := fun Z => c.turn (Z := Z) hD m1 s1 re (by rw [List.length_take]; omega) h1 h2 hn
    rw [ht]
    exact this _
  · rw [rx.len, ← hlen, List.take_length] at c
    obtain ⟨ys, hy, ry⟩ := c.l
    refine q _ H' (e1.trans c.e) (.dic ?_ (ry.mono ?_))
    · rw [hid_out (m1.fresh hD)]; exact hy
    · intro b o z
      obtain ⟨n, w⟩ := hid_some z
      rw [hid_out (fun hm => n (List.mem_cons_of_mem _ hm))]
      exact w
end
end Dw
namespace Dw
open PySem L2 TL
def tyN : Dv → Option String
  | .non => some "NoneType"
  | .bl _ => some "bool"
  | .int _ => some "int"
  | .str _ => some "str"
  | .lst _ => some "list"
  | .tup _ => some "tuple"
  | _ => none
section
variable {K : PySem.W.Frag} {Pm F : List Addr} {M : Mu} {Γ : Ga} {ta tb tc te tk tv tl' to : TE} {x y z d : Dv} {t u : TT} {R : Dv → Mu → Prop} {RT : Bool → Mu → Prop} {H0 H H' : Hp} {σ : L2.St} {P : Po}
theorem tyX_of {v : V} {T : String} {l : List Addr} (r : Rp K (hid l H) v d) (h : tyN d = some T) : TyX K H v (.type T) := by
  cases r with
  | non => cases h; exact .base .non
  | bl b => cases h; exact .base (.bl _)
  | int i => cases h; exact .base (.int _)
  | str s => cases h; exact .base (.str _)
  | lst h1 _ => cases h; exact .base (.lst (hid_some h1).2)
  | tup h1 _ =>
    cases h
    rcases h1 with (h1 | ⟨o, h1⟩) | ⟨o, its, n, h1, h2, _⟩
    · exact .base (.tup (hid_some h1).2)
    · exact .fTuple (hid_some h1).2
    · exact .kTuple h1 h2
  | _ => cases h
def rIsiG (K : PySem.W.Frag) : List V → Hp → VK → Prop := rIsi K
theorem call_isiG {X : Cx} (hK : X.K = K) : CallR X (.builtin "isinstance") (rIsiG K) := hK ▸ call_isi
theorem ed_isi {T c : String} {b : Bool} (h : EvD K F M te Γ x) (hx : tyN x = some T) (hb : PySem.W.kitOne K (.type T) (.type c) = some b) : EvD K F M (tCB (rIsiG K) (tCons te (tCons (tC (.ty c)) tNil))) Γ (.bl b) := fun σ H m s Q q =>
  h σ H m s _ fun v H1 e1 r1 => ⟨v, .ty c, .type T, .type c, b, rfl, .ty c, tyX_of r1 hx, hb, q _ H1 e1 (.bl b)⟩
theorem isi_ss : PySem.W.kitOne K (.type "str") (.type "str") = some true := by rfl
theorem isi_tt : PySem.W.kitOne K (.type "tuple") (.type "tuple") = some true := by rfl
theorem isi_ii : PySem.W.kitOne K (.type "int") (.type "int") = some true := by rfl
theorem isi_ib : PySem.W.kitOne K (.type "int") (.type "bool") = some false := by rfl
theorem ed_dget {kz : List (Key × Dv)} {k : Key} (h : EvD K F M ta Γ (.dic kz)) (hk : EvD K F M tb Γ (dK k)) (hl : valD kz k = some d) : EvD K F M (tDGet ta tb) Γ d := fun σ H m s Q q =>
  h σ H m s _ fun v H1 e1 r1 => hk σ H1 (m.mono e1) (s.mono e1) _ fun w H2 e2 r2 => by
    cases r1 with
    | dic h1 r1 =>
    obtain ⟨u, hu, ru⟩ := RpK.get (r1.mono (hid_same e2)) hl
    exact ⟨_, u, rfl, .inl ⟨_, k, .inl (e2 _ _ (hid_some h1).2), rp_key r2, hu.symm⟩, q u H2 (e1.trans e2) ru⟩
end
def nmK (a : Ads) (c : Cd) : Key × Dv := (.inr c.nm, pC a c)
def gD (a : Ads) (w : Nat) (cs : List Cd) : List (Str × Dv) := [("wrap", .int w), ("cards", .lst (cs.map (pC a))), ("names", .tup (cs.map fun c => .str c.nm)), ("by_name", .dic (cs.map (nmK a)))]
def pD (a : Ads) (D : Dk) : Dv := .ins a.deck (gD a D.w D.cs)
def S_Deck_init (a : Ads) : DS := fun ds M R => ∃ (p : Addr) (w : Nat) (cs : List Cd), ds = [.adr p, .int w, .lst (cs.map (pC a))] ∧ M = [(p, .ins a.deck [])] ∧ cs.length ≤ 1000 ∧ (cs.map (·.nm)).Nodup ∧ R .non [(p, .ins a.deck (gD a w cs))]
def S_Parser_read_deck (a : Ads) : DS := fun ds M R => ∃ (p : Addr) (s : Pst) (D : Dk), ds = [.adr p] ∧ M = pS a p s ∧ D.ok ∧ At s.ts s.i (deckT D) ∧ ∀ s' : Pst, s'.f = s.f → R (pD a D) (pS a p s')
def S_parse_deck (a : Ads) : DS := fun ds M R => ∃ (x : Str) (D : Dk) (ts : List Tk), ds = [.str x] ∧ M = [] ∧ D.ok ∧ x.length ≤ 50000 ∧ (∀ r ∈ Txt.split x "\n", r.length ≤ 50000) ∧ lexT x = some ts ∧ ts.length ≤ 50000 ∧ At ts 0 (deckT D) ∧ R (pD a D) []
end Dw
namespace Dw
open PySem L2 TL
section
variable {K : PySem.W.Frag} {Pm F : List Addr} {M : Mu} {Γ : Ga} {ta tb tc te tk tv tl' to ti : TE} {x y z d : Dv} {t u : TT} {R : Dv → Mu → Prop} {RT : Bool → Mu → Prop} {H0 H H' : Hp} {σ : L2.St} {P : Po} {N : Ga → Mu → Prop}
def WpG (K : PySem.W.Frag) (Pm F : List Addr) (g : TG) (d : Dv) (Γ : Ga) (M : Mu) (N : Ga → Mu → Prop) : Prop := ∀ (H0 : Hp) (σ : L2.St) (H : Hp) (v : V), Stt K Pm F M H0 H σ Γ → Rp K (hid (ads M ++ F) H) v d → ∀ Q : L2.St → Hp → Prop,
  (∀ σ' H' Γ' M', N Γ' M' → Stt K Pm F M' H0 H' σ' Γ' → Kp F M H M' H' → Q σ' H') → g v σ H Q
def WpGs (K : PySem.W.Frag) (Pm F : List Addr) (g : TGs) (ds : List Dv) (Γ : Ga) (M : Mu) (N : Ga → Mu → Prop) : Prop := ∀ (H0 : Hp) (σ : L2.St) (H : Hp) (vs : List V), Stt K Pm F M H0 H σ Γ → RpL K (hid (ads M ++ F) H) vs ds → ∀ Q : L2.St → Hp → Prop,
  (∀ σ' H' Γ' M', N Γ' M' → Stt K Pm F M' H0 H' σ' Γ' → Kp F M H M' H' → Q σ' H') → g vs σ H Q
theorem wgs_nil (k : N Γ M) : WpGs K Pm F gNil [] Γ M N := fun H0 σ H vs S r Q q => by
  cases r
  exact ⟨rfl, q σ H Γ M k S (Same.refl _)⟩
theorem wgs_cons {g : TG} {gs : TGs} {ds : List Dv} (h : WpG K Pm F g d Γ M fun Γ' M' => WpGs K Pm F gs ds Γ' M' N) : WpGs K Pm F (gCons g gs) (d :: ds) Γ M N := fun H0 σ H vs S r Q q => by
  cases r with
  | cons r1 r2 => exact ⟨_, _, rfl, h H0 σ H _ S r1 _ fun σ1 H1 Γ1 M1 h1 S1 k1 => h1 H0 σ1 H1 _ S1 (r2.mono k1) Q fun σ2 H2 Γ2 M2 h2 S2 k2 => q σ2 H2 Γ2 M2 h2 S2 (k1.trans k2)⟩
theorem wg_tup {gs : TGs} {ds : List Dv} {n : Nat} (hn : ds.length = n) (h : WpGs K Pm F gs ds Γ M N) : WpG K Pm F (gTup K n gs) (.tup ds) Γ M N := fun H0 σ H v S r Q q => by
  cases r with
  | tup h1 r1 => exact ⟨_, _, rfl, sqT_hid h1.1, by rw [r1.len]; exact hn, h H0 σ H _ S r1 Q q⟩
theorem wg_name {i : Nat} (k : N (Γ.set i (some d)) M) : WpG K Pm F (gName i) d Γ M N := fun H0 σ H v S r Q q => q _ H _ M k ⟨S.fr, S.loc, S.ms, S.s.set i r⟩ (Same.refl _)
theorem wg_sub {p : Addr} {i j : Nat} {ds : List Dv} (ho : EvD K F M to Γ (.adr p)) (hi : M[i]? = some (p, .lst ds)) (hj : EvD K F M ti Γ (.int (j : Nat))) (hlt : j < ds.length) (k : N Γ (M.set i (p, .lst (ds.set j d)))) :
    WpG K Pm F (gSub to ti rSetL) d Γ M N := fun H0 σ H w S r1 Q q =>
  ho σ H S.ms S.s _ fun v H2 e2 r2 => by
      cases r2
      refine hj σ H2 (S.mono e2).ms (S.mono e2).s _ fun u H3 e3 r3 => ?_
      cases r3
      have S3 := (S.mono e2).mono e3
      obtain ⟨xs, hx, rx⟩ := S3.ms.ok _ (List.mem_of_getElem? hi)
      have hl := rx.len
      refine ⟨p, xs, _, j, rfl, rfl, hx, ?_, ?_⟩
      · unfold ixN
        rw [if_pos (by omega), if_pos (by omega)]
        simp
      · have r1' : Rp K (hid (ads M ++ F) H3) w d := (r1.mono (Kp.of e2)).mono (Kp.of e3)
        obtain ⟨S4, k4⟩ := upd_lst (ys := xs.set j w) (es := ds.set j d) S3 hi (RpL.set r1' j rx)
        exact q _ _ _ _ k S4 (((Kp.of e2).trans (Kp.of e3)).trans k4)
theorem ws_asgW {g : TG} (h : WpX K Pm F te Γ M fun d M' => WpG K Pm F g d Γ M' P.n) : WpS K Pm F (tAsg te g) Γ M P := fun H0 σ H D S n r b c =>
  h H0 σ H S _ fun v H1 d M1 hg S1 k1 r1 => hg H0 σ H1 v S1 r1 _ fun σ2 H2 Γ2 M2 h2 S2 k2 => n σ2 H2 Γ2 M2 h2 S2 (k1.trans k2)
/-- the mutable objects in another order -/
theorem Stt.perm {M' : Mu} (S : Stt K Pm F M H0 H σ Γ) (hp : M.Perm M') : Stt K Pm F M' H0 H σ Γ ∧ Kp F M H M' H := by
  have hm : ∀ q, q ∈ M ↔ q ∈ M' := fun q => hp.mem_iff
  have ha : ∀ a, a ∈ ads M ++ F ↔ a ∈ ads M' ++ F := fun a => by
    have hpa : (ads M).Perm (ads M') := hp.map _
    rw [List.mem_append, List.mem_append, hpa.mem_iff]
  have hh : hid (ads M ++ F) H = hid (ads M' ++ F) H := hid_congr ha
  have hk : Same (hid (ads M ++ F) H) (hid (ads M' ++ F) H) := by rw [hh]; exact Same.refl _
  exact ⟨⟨S.fr, fun q hq => S.loc q ((hm q).mpr hq), ⟨fun q hq => (S.ms.ok q ((hm q).mpr hq)).keep hk fun o e => e, (hp.map _).nodup_iff.mp S.ms.nd, S.ms.ff, fun a ha hm' => S.ms.ap a ha ((hp.map Prod.fst).mem_iff.mpr hm')⟩, S.s.keep hk⟩, hk⟩
theorem wx_perm (h : WpX K Pm F te Γ M fun d M' => ∃ M1, M'.Perm M1 ∧ R d M1) : WpX K Pm F te Γ M R := fun H0 σ H S Q q =>
  h H0 σ H S _ fun v H1 d M1 ⟨M2, hp, hR⟩ S1 k1 r1 => by
    obtain ⟨S2, k2⟩ := S1.perm hp
    exact q _ H1 _ _ hR S2 (k1.trans k2) (r1.mono k2)
theorem cd_tupM {p : Addr} {i : Nat} {ds : List Dv} (hi : M[i]? = some (p, .lst ds)) : CaD K F M (rTupleG K) [.adr p] (.tup ds) := fun vs H m r Q q => by
  cases r with
  | cons r1 r2 =>
  cases r2
  cases r1
  obtain ⟨xs, hx, rx⟩ := m.ok _ (List.mem_of_getElem? hi)
  exact ⟨_, _, rfl, .inl ⟨.inl (.inl hx), fun l hl o z => q _ _ (same_new hl) (m.newT hl z rx)⟩⟩
end
abbrev iN (n : Nat) : Dv := .int (n : Nat)
def actV (w : Nat) (v : List Nat) : Ac → List Nat
  | .add r n => v.set r ((v.getD r 0 + n) % w)
  | .copy r s => v.set r (v.getD s 0)
  | .swap r s => (v.set r (v.getD s 0)).set s (v.getD r 0)
  | _ => v
def emV (v : List Nat) : Ac → List Nat
  | .emr r => [v.getD r 0]
  | .emn n => [n]
  | _ => []
def runV (w : Nat) (acs : List Ac) (v : List Nat) : List Nat × List Nat := acs.foldl (fun p c => (actV w p.1 c, p.2 ++ emV p.1 c)) (v, [])
def depV (v : List Nat) : Pu → Nat
  | .num n => n
  | .reg r => v.getD r 0
  | .cho r m n => if v.getD r 0 = 0 then m else n
theorem actV_len {w : Nat} {v : List Nat} (c : Ac) : (actV w v c).length = v.length := by
  cases c <;> simp [actV]
theorem runV_len (w : Nat) (acs : List Ac) (v : List Nat) : (runV w acs v).1.length = v.length := by
  have : ∀ (acs : List Ac) (p : List Nat × List Nat), (acs.foldl (fun p c => (actV w p.1 c, p.2 ++ emV p.1 c)) p).1.length = p.1.length := fun acs => by
    induction acs with
    | nil => intro p; rfl
    | cons c r ih => intro p; rw [List.foldl_cons, ih]; exact actV_len c
  exact this acs (v, [])
theorem emV_len (v : List Nat) (c : Ac) : (emV v c).length ≤ 1 := by cases c <;> simp [emV]
theorem getD_at {v : List Nat} {r : Nat} (h : r < v.length) : (v.map iN)[r]? = some (iN (v.getD r 0)) := by
  rw [List.getElem?_map, List.getElem?_eq_getElem h]
  simp [List.getD, h]
/-- a state -/
def stD (o : List Cd) (v : List Nat) : Dv := .tup [.tup (o.map fun c => .str c.nm), .tup (v.map iN)]
def S_find_depth : DS := fun ds M R => ∃ (c : Pu) (x : Dv) (v : List Nat), ds = [pP c, x] ∧ ((∃ p, x = .adr p ∧ M = [(p, .lst (v.map iN))]) ∨ (x = .tup (v.map iN) ∧ M = [])) ∧ c.ok ∧ v.length = 4 ∧ R (iN (depV v c)) M
def S_run_actions : DS := fun ds M R => ∃ (acs : List Ac) (v : List Nat) (w : Nat), ds = [.tup (acs.map pA), .tup (v.map iN), iN w] ∧ M = [] ∧ 0 < w ∧ (∀ c ∈ acs, c.ok w) ∧ acs.length ≤ 6 ∧ v.length = 4 ∧
  ∀ p q : Addr, R (.tup [.adr p, .adr q]) [(q, .lst ((runV w acs v).2.map iN)), (p, .lst ((runV w acs v).1.map iN))]
end Dw
namespace Dw
open PySem L2 TL
theorem cutD_to {xs : List Dv} {j : Nat} (h : j ≤ xs.length) : cutD xs none (some (j : Int)) = xs.take j := by
  unfold cutD
  rw [HT.sIx_nat, Nat.min_eq_left h]
  rfl
theorem cutD_from {xs : List Dv} {j : Nat} (h : j ≤ xs.length) : cutD xs (some (j : Int)) none = xs.drop j := by
  unfold cutD
  rw [HT.sIx_nat, Nat.min_eq_left h]
  show (xs.drop j).take (xs.length - j) = _
  rw [List.take_of_length_le (by rw [List.length_drop]; exact Nat.le_refl _)]
/-- one step: the next order and registers, the values, the depth -/
def stepV (w : Nat) (c : Cd) (r : List Cd) (v : List Nat) : (List Cd × List Nat) × List Nat × Nat :=
  let p := runV w c.ac v
  let d := min (depV p.1 c.pu) r.length
  ((r.take d ++ c :: r.drop d, p.1), p.2, d)
theorem valD_nm {a : Ads} : ∀ {cs : List Cd} {c : Cd}, c ∈ cs → (cs.map (·.nm)).Nodup → valD (cs.map (nmK a)) (.inr c.nm) = some (pC a c)
  | e :: r, c, hc, hn => by
    rw [List.map_cons] at hn ⊢
    obtain ⟨h1, h2⟩ := List.nodup_cons.mp hn
    rcases List.mem_cons.mp hc with z | z
    · subst z
      exact valD_pos (p := nmK a c) rfl
    · rw [valD_neg (p := nmK a e) (fun q => h1 (by rw [show e.nm = c.nm from Sum.inr.inj q]; exact List.mem_map.mpr ⟨c, z, rfl⟩))]
      exact valD_nm z h2
abbrev nmD (c : Cd) : Dv := .str c.nm
def S_act (a : Ads) : DS := fun ds M R => ∃ (D : Dk) (c : Cd) (r : List Cd) (v : List Nat), ds = [pD a D, stD (c :: r) v] ∧ M = [] ∧ D.ok ∧ c ∈ D.cs ∧ r.length ≤ 8 ∧ v.length = 4 ∧
  ∀ q : Addr, R (.tup [stD (stepV D.w c r v).1.1 (stepV D.w c r v).1.2, .adr q, iN (stepV D.w c r v).2.2]) [(q, .lst ((stepV D.w c r v).2.1.map iN))]
end Dw
namespace Dw
open PySem PySem.Spec PyProof.Rows L2 TL
section
variable {prog : Program} {w : World} {A : Around} {E : Value → Shared → Prop} {s : Shared}
theorem collect_tup {l : Addr} {vs : List Value} {o : Obj} {n : Nat} {Q : List Value → Shared → Prop} (ho : s.heap.get? l = some o) (hc : o.cls = .type "tuple") (hd : o.data = .seq vs.toArray n)
    (h : Q vs { s with heap := (s.heap.push (seqObj "list" #[] 0)).update s.heap.objs.size (Obj.mapSeq (· ++ vs.toArray)) }) (hsz : vs.length ≤ sizeLine) :
    wpAny (model prog w) A (collect (.ref l)) Q E s := by
  unfold collect
  refine wpAny_bind (wpAny_runValue (codeAny_builtin F.entry_proto_collect ?_))
  show wpAny _ _ (do again (.builtin "list.__iadd__" ⟨[← newList [], .ref l], []⟩)) _ _ s
  refine wpAny_bind (wpAny_newList (wpAny_pure ⟨Code.quiet_builtin _ (by decide +kernel), codeAny_builtin F.entry_list_iadd ?_⟩))
  show wpAny _ _ (Builtin.List.listExtendWith (.ref s.heap.objs.size) (.ref l) (.ref s.heap.objs.size)) _ _ { s with heap := s.heap.push (seqObj "list" #[] 0) }
  unfold Builtin.List.listExtendWith
  have ho' : (s.heap.push (seqObj "list" #[] 0)).get? l = some o := Heap.get?_push_of_some _ ho
  refine wpAny_bind (wpAny_typeOf (T := "tuple") ⟨o, ho', hc⟩ ?_)
  have ht : (Value.type "tuple" == Value.type "tuple") = true := by rfl
  rw [if_pos (by rw [ht]; simp)]
  refine wpAny_bind (listItems_at ho' hd ?_)
  refine wpAny_bind (listItems_at (xs := #[]) (n := 0) (Heap.get?_push_size _ rfl) rfl ?_)
  rw [if_neg (by simp)]
  refine wpAny_bind (listUpdate_at (xs := #[]) (n := 0) (Heap.get?_push_size _ rfl) rfl ?_ (Nat.zero_le _) (by show (#[] ++ vs.toArray).size ≤ sizeLine + 1; simp only [Array.size_append, List.size_toArray, List.length_nil]; omega))
  refine wpAny_pure ?_
  show wpAny (model prog w) A (do
      let o ← load s.heap.objs.size
      match o.data with
      | .seq xs _ => pure xs.toList
      | _ => unsupported "internal:collect") Q E { s with heap := (s.heap.push (seqObj "list" #[] 0)).update s.heap.objs.size (Obj.mapSeq (· ++ vs.toArray)) }
  refine wpAny_bind (wpAny_load (get?_update_seq (Heap.get?_push_size _ rfl) _) ?_)
  show wpAny _ _ (pure ((#[] : Array Value) ++ vs.toArray).toList) Q E _
  rw [show ((#[] : Array Value) ++ vs.toArray).toList = vs by simp]
  exact wpAny_pure h
theorem sorted_tupS {l : Addr} {vs : List Value} {ss : List Str} {o : Obj} {n : Nat} {Q : Value → Shared → Prop} (ho : s.heap.get? l = some o) (hc : o.cls = .type "tuple") (hd : o.data = .seq vs.toArray n) (hS : StrsAre vs ss) (h64 : vs.length < 64)
    (h : ∀ (out : Array Value) (ss' : List Str), StrsAre out.toList ss' → ss'.Perm ss → sortedS ss' = true → Q (.ref (s.heap.objs.size + 1)) { s with heap := sortedAll s.heap vs out }) :
    wpAny (model prog w) A (call (.builtin "sorted") [.ref l]) Q E s := by
  refine Calls.call_function_entry kind_sorted plain_sorted entry_sorted (args_sorted1 _) ?_
  unfold Builtin.«sorted»
  refine wpAny_bind (m := checkCount "sorted" 1 1 _) (wpAny_pure ?_)
  refine wpAny_bind (collect_tup ho hc hd ?_ (by rw [sizeLine_eq]; omega))
  refine wpAny_bind (wpAny_newList ?_)
  have hsz : ((s.heap.push (seqObj "list" #[] 0)).update s.heap.objs.size (Obj.mapSeq (· ++ vs.toArray))).objs.size = s.heap.objs.size + 1 := by
    rw [Heap.size_update, size_push']
  have hoL : (((s.heap.push (seqObj "list" #[] 0)).update s.heap.objs.size (Obj.mapSeq (· ++ vs.toArray))).push (seqObj "list" vs.toArray 0)).get? (s.heap.objs.size + 1) = some (seqObj "list" vs.toArray 0) := by
    rw [← hsz]; exact Heap.get?_push_size _ rfl
  show wpAny _ _ _ _ _ { s with heap := ((s.heap.push (seqObj "list" #[] 0)).update s.heap.objs.size (Obj.mapSeq (· ++ vs.toArray))).push (seqObj "list" vs.toArray 0) }
  rw [hsz]
  refine wpAny_bind (wpAny_holding (wpAny_call_entry slot_list_sort ⟨_, hoL, rfl⟩ entry_list_sort (list_sort_treeK strKind_oneLt hoL hS.keysOf (fun v₁ v₂ rest e => keyKind_strs (by rw [← e]; exact hS)) h64 fun st' a1 a2 => ⟨_, rfl, ?_⟩) (args_list_sort _)))
  obtain ⟨ss', h1, h2, h3⟩ := sorted_out_str hS a1 a2
  exact wpAny_pure ⟨_, rfl, h _ ss' h1 h2 h3⟩
end
def rSortedTS (K : PySem.W.Frag) : List V → Hp → VK → Prop := fun vs H Q => ∃ (a : Addr) (xs : List Str), vs = [V.ref a] ∧ SqT K H a (xs.map V.str) ∧ xs.length < 64 ∧
  ∀ (ys : List Str) (p : Addr), ys.Perm xs → sortedS ys = true → H p = none → Q (.ref p) (upd H p (.lst (ys.map V.str)))
theorem cr_sortedTS {X : Cx} : CallR X (.builtin "sorted") (rSortedTS X.K) := by
  intro pins s σ H vs us Q I r h
  obtain ⟨a, xs, rfl, hs, h64, q⟩ := h
  obtain ⟨its, rv, ⟨o, ho, hc, n, hd⟩, _⟩ := I.tuple hs
  rw [Vals.ref1 r]
  have hlen0 := rv.length
  rw [List.length_map] at hlen0
  refine sorted_tupS ho hc hd rv.strs (by rw [← hlen0]; exact h64) fun out ys h1 h2 h3 => ?_
  obtain ⟨ep, he'⟩ := PyProof.Rows.sortedAll_at s.heap its out
  have hlen : (ys.map V.str).length ≤ sizeLine := by rw [List.length_map, h2.length_eq]; exact small64 h64
  exact ⟨.ref _, upd H (s.heap.objs.size + 1) (.lst (ys.map V.str)), I.laid (t' := s.toks) (fun _ _ => PyProof.Rows.sortedAll_old) (Nat.le_succ _) ⟨hlen, out.toList, ep, vals_of_strs h1, he'⟩, rfl, q ys _ h2 h3 (I.hok.fresh (Nat.le_succ _))⟩
def rSortedG (K : PySem.W.Frag) : List V → Hp → VK → Prop := fun xs H Q => rSortedS K xs H Q ∨ rSortedTS K xs H Q
theorem call_sortedG {X : Cx} {K : PySem.W.Frag} (hK : X.K = K) : CallR X (.builtin "sorted") (rSortedG K) := hK ▸ cr_sortedS.or cr_sortedTS
/-! two sorted lists of the same texts are one -/
theorem rising_pw : ∀ (l : List Str) (p : Str), risingS p l = true → ∀ x ∈ l, p.cps.toList ≤ x.cps.toList
  | y :: l, p, h, x, hx => by
    simp only [risingS, Bool.and_eq_true, Bool.not_eq_true', ltCps_eq, decide_eq_false_iff_not] at h
    have h1 : p.cps.toList ≤ y.cps.toList := List.not_lt.mp h.1
    rcases List.mem_cons.mp hx with z | z
    · rw [z]; exact h1
    · exact List.le_trans h1 (rising_pw l y h.2 x z)
theorem rising_sorted : ∀ {l : List Str} {p : Str}, risingS p l = true → sortedS l = true
  | [], _, _ => rfl
  | y :: l, p, h => by
    simp only [risingS, Bool.and_eq_true] at h
    exact h.2
theorem sort_uniq : ∀ {l m : List Str}, l.Perm m → sortedS l = true → sortedS m = true → l = m
  | [], m, hp, _, _ => (List.nil_perm.mp hp).symm
  | x :: l, [], hp, _, _ => absurd hp.symm (by simp)
  | x :: l, y :: m, hp, h1, h2 => by
    have hx : x = y := by
      have hxm := hp.mem_iff.mp (List.mem_cons_self (a := x) (l := l))
      have hym := hp.mem_iff.mpr (List.mem_cons_self (a := y) (l := m))
      rcases List.mem_cons.mp hxm with z | z
      · exact z
      rcases List.mem_cons.mp hym with z' | z'
      · exact z'.symm
      exact ext_tl (List.le_antisymm (rising_pw l x h1 y z') (rising_pw m y h2 x z))
    subst hx
    exact congrArg (x :: ·) (sort_uniq (List.Perm.cons_inv hp) (rising_sorted h1) (rising_sorted h2))
section
variable {K : PySem.W.Frag} {Pm F : List Addr} {M : Mu} {Γ : Ga} {ta tb tc te tk tv tl' to ti : TE} {x y z d : Dv} {t u : TT} {R : Dv → Mu → Prop} {H0 H H' : Hp} {σ : L2.St} {P : Po}
theorem eqvAll_strs : ∀ ys : List Str, PyData.eqvAll (toPyL (ys.map Dv.str)) (toPyL (ys.map Dv.str)) = true
  | [] => by simp [toPyL, PyData.eqvAll]
  | y :: ys => by
    have := eqvAll_strs ys
    simp [toPyL, toPy, PyData.eqvAll, PyData.eqv, this]
/-- sorted(xs) == sorted(ys) of two tuples of the same texts -/
theorem ed_sortEq {xs ys : List Str} (ha : EvD K F M ta Γ (.tup (xs.map Dv.str))) (hb : EvD K F M tb Γ (.tup (ys.map Dv.str))) (hp : xs.Perm ys) (hx : xs.length < 64) (hok : ∀ x ∈ xs, PyData.strOk x = true) :
    EvD K F M (tOp (rEqG K) (tCB (rSortedG K) (tCons ta tNil)) (tCB (rSortedG K) (tCons tb tNil))) Γ (.bl true) := fun σ H m s Q q =>
  ha σ H m s _ fun v H1 e1 r1 => by
    cases r1 with
    | tup h1 r1 =>
    have := RpL.strs_of r1
    subst this
    refine .inr ⟨_, xs, rfl, sqT_hid h1.1, hx, fun xs' p hp1 hs1 hn1 => ?_⟩
    have e2 : Same H1 (upd H1 p (.lst (xs'.map V.str))) := same_new hn1
    refine hb σ _ ((m.mono e1).mono e2) ((s.mono e1).mono e2) _ fun w H2 e3 r2 => ?_
    cases r2 with
    | tup h2 r2 =>
    have := RpL.strs_of r2
    subst this
    refine .inr ⟨_, ys, rfl, sqT_hid h2.1, by rw [← hp.length_eq]; exact hx, fun ys' p2 hp2 hs2 hn2 => ?_⟩
    have e4 : Same H2 (upd H2 p2 (.lst (ys'.map V.str))) := same_new hn2
    have he : xs' = ys' := sort_uniq ((hp1.trans hp).trans hp2.symm) hs1 hs2
    subst he
    have m2 := (m.mono e1).mono e2
    have m4 := (m2.mono e3).mono e4
    have rA : Rp K (hid (ads M ++ F) (upd H2 p2 (.lst (xs'.map V.str)))) (.ref p) (.lst (xs'.map Dv.str)) := ((m.mono e1).newL hn1 (RpL.strs xs')).mono (hid_same (e3.trans e4))
    have rB : Rp K (hid (ads M ++ F) (upd H2 p2 (.lst (xs'.map V.str)))) (.ref p2) (.lst (xs'.map Dv.str)) := (m2.mono e3).newL hn2 (RpL.strs xs')
    have hPl : Pl 1 (.lst (xs'.map Dv.str)) := fun d hd => by
      obtain ⟨z, hz, rfl⟩ := List.mem_map.mp hd
      exact hok z (hp1.mem_iff.mp hz)
    refine od_eqD (M := M) (F := F) hPl hPl (by decide) _ _ _ m4 rA rB _ fun u H3 e5 r3 => ?_
    have e : PyData.eqv (toPy (.lst (xs'.map Dv.str))) (toPy (.lst (xs'.map Dv.str))) = true := by
      have := eqvAll_strs xs'
      simp [toPy, PyData.eqv, this]
    rw [e] at r3
    exact q u H3 ((((e1.trans e2).trans e3).trans e4).trans e5) r3
/-- [e for x in xs], xs a tuple -/
theorem en_lcT {j : Nat} {ds rs : List Dv} (h : EvD K F M tl' Γ (.tup ds)) (hz : ds.length ≤ 60000) (hlen : rs.length = ds.length)
    (hg : ∀ (i : Nat) e r, ds[i]? = some e → rs[i]? = some r → ∀ Dl, EvD K (Dl :: F) M te (Γ.set j (some e)) r) :
    EvN K F M (tLc (iTup K tl') (gName j) tYes te [j]) Γ rs := fun σ H m s Q q => h σ H m s _ fun v H1 e1 r1 => by
  cases r1 with
  | tup hq rx =>
  rename_i a xs
  have m1 := m.mono e1
  have s1 := s.mono e1
  refine ⟨a, rfl, ⟨xs, sqT_hid hq.1⟩, fun Dl hD => ?_⟩
  refine lc_tup (xs := xs) (fun i => Lcs K F M H1 Dl (rs.take i)) ⟨same_new hD, [], upd_same, .nil⟩ (fun i H' _ c => sqT_mono c.e (sqT_hid hq.1)) (fun i x H' hx c => ?_) fun H' c => ?_
  · obtain ⟨e, he, re⟩ := rx.getV hx
    have hi := (List.getElem?_eq_some_iff.mp he).1
    have hr : rs[i]? = some rs[i] := by simp [hlen, hi]
    refine ⟨wipe_one σ j x, c.turn (b := true) (g := rs[i]) hD m1 s1 re ?_ et_yes (fun _ => hg i e _ he hr Dl) ?_⟩
    · rw [List.length_take]; omega
    · rw [List.take_succ, hr]
      rfl
  · rw [rx.len, ← hlen, List.take_length] at c
    obtain ⟨ys, hy, ry⟩ := c.l
    exact q Dl H' ys (none_back e1 hD) (e1.trans c.e) hy ry
def rAllG (K : PySem.W.Frag) : List V → Hp → VK → Prop := rAll K
theorem call_allG {X : Cx} {K : PySem.W.Frag} (hK : X.K = K) (hc : X.calm = true) : CallR X (.builtin "all") (rAllG K) := hK ▸ cr_all hc
theorem cd_all {bs : List Bool} : CaD K F M (rAllG K) [.lst (bs.map Dv.bl)] (.bl (bs.all id)) := fun vs H m r Q q => by
  cases r with
  | cons r1 r2 =>
  cases r2
  cases r1 with
  | lst h1 ry =>
    have := RpL.bls_of ry
    subst this
    exact ⟨_, bs, rfl, .inl (.inl (hid_some h1).2), q _ H (Same.refl H) (.bl _)⟩
end
def S_is_within : DS := fun ds M R => ∃ (n lo hi : Int), ds = [.int n, .int lo, .int hi] ∧ M = [] ∧ R (.bl (decide (lo ≤ n) && decide (n ≤ hi))) []
def S_is_value (a : Ads) : DS := fun ds M R => ∃ (D : Dk) (n : Int), ds = [pD a D, .int n] ∧ M = [] ∧ R (.bl (decide (0 ≤ n) && decide (n < (D.w : Nat)))) []
def S_are_registers (a : Ads) : DS := fun ds M R => ∃ (D : Dk) (v : List Nat), ds = [pD a D, .tup (v.map iN)] ∧ M = [] ∧ v.length = 4 ∧ (∀ x ∈ v, x < D.w) ∧ R (.bl true) []
def S_is_order (a : Ads) : DS := fun ds M R => ∃ (D : Dk) (o : List Cd), ds = [pD a D, .tup (o.map nmD)] ∧ M = [] ∧ D.ok ∧ o.Perm D.cs ∧ R (.bl true) []
def S_is_state (a : Ads) : DS := fun ds M R => ∃ (D : Dk) (o : List Cd) (v : List Nat), ds = [pD a D, stD o v] ∧ M = [] ∧ D.ok ∧ o.Perm D.cs ∧ v.length = 4 ∧ (∀ x ∈ v, x < D.w) ∧ R (.bl true) []
def S_first_state (a : Ads) : DS := fun ds M R => ∃ (D : Dk), ds = [pD a D] ∧ M = [] ∧ R (stD D.cs [0, 0, 0, 0]) []
def oSt : Option (List Cd × List Nat) → Dv
  | none => .non
  | some (o, v) => stD o v
def S_choose_start (a : Ads) : DS := fun ds M R => ∃ (D : Dk) (b : Option (List Cd × List Nat)), ds = [pD a D, oSt b] ∧ M = [] ∧ D.ok ∧ (∀ o v, b = some (o, v) → o.Perm D.cs ∧ v.length = 4 ∧ ∀ x ∈ v, x < D.w) ∧ R (stD (b.getD (D.cs, [0, 0, 0, 0])).1 (b.getD (D.cs, [0, 0, 0, 0])).2) []
def S_check_count : DS := fun ds M R => ∃ (n m : Int), ds = [.int n, .int m] ∧ M = [] ∧ 0 ≤ n ∧ n ≤ m ∧ R .non []
end Dw
namespace Dw
open PySem L2 TL
section
variable {K : PySem.W.Frag} {Pm F : List Addr} {M : Mu} {Γ : Ga} {P : Po}
theorem ws_par3 {i j l : Nat} {tA : TA} (h : WpA K Pm F tA Γ M fun ds M' => ∃ d e f, ds = [d, e, f] ∧ P.n (((Γ.set i (some d)).set j (some e)).set l (some f)) M') : WpS K Pm F (tPar3 i j l tA) Γ M P := fun H0 σ H D S n r b c =>
  h H0 σ H S _ fun vs H1 ds M1 ⟨d, e, f, he, hR⟩ S1 k1 r1 => by
    subst he
    cases r1 with
    | cons r1 r2 =>
      cases r2 with
      | cons r2 r3 =>
        cases r3 with
        | cons r3 r4 =>
          cases r4
          exact ⟨_, _, _, rfl, n _ H1 _ M1 hR (((S1.set i r1).set j r2).set l r3) k1⟩
end
def lwD (o : List Cd) (v : List Nat) : Dv := .tup [.lst (o.map eC), .lst (v.map iN)]
def S_start : DS := fun ds M R => ∃ (D : Dk), ds = [eD D] ∧ M = [] ∧ R (lwD D.cs [0, 0, 0, 0]) []
def S_named : DS := fun ds M R => ∃ (o : List Cd) (v : List Nat), ds = [lwD o v] ∧ M = [] ∧ o.length ≤ 1000 ∧ R (stD o v) []
def S_step : DS := fun ds M R => ∃ (D : Dk) (c : Cd) (r : List Cd) (v : List Nat), ds = [eD D, lwD (c :: r) v] ∧ M = [] ∧ 2 ≤ D.w ∧ Cd.okN 7 D.w c ∧ r.length ≤ 8 ∧ v.length = 4 ∧
  R (.tup [lwD (stepV D.w c r v).1.1 (stepV D.w c r v).1.2, .lst ((stepV D.w c r v).2.1.map iN), iN (stepV D.w c r v).2.2]) []
end Dw
namespace Dw
open PySem L2 TL
/-- a def whose last parameters are given by name -/
structure DefKT (K : PySem.W.Frag) (mg : Str → Option Value) (x qual : Str) (st : Stmt) (ps : List Str) (n : Nat) (ks : List Str) : Prop where
  ex : ∃ f fd, Fun K x qual st f fd ∧ mg x = some (.ref f) ∧ KBn K fd ps n ks (fun us ws => us ++ ws) (fun us ws => us ++ ws) ∧ ∃ ds, Vals (List.replicate ks.length V.non) ds ∧ Binds K fd ps ds
structure CalN (P : Program) (w : World) (K : PySem.W.Frag) (mg : Str → Option Value) (base : Heap) (k : Nat) (x : Str) (ps : List Str) (n : Nat) (ks : List Str) (sp : Sp) : Prop where
  ex : ∃ f fd, FnOk P w K mg base CX0 k f fd ps sp ∧ mg x = some (.ref f) ∧ PySem.W.keepIn K (.ref f) = true ∧ KBn K fd ps n ks (fun us ws => us ++ ws) (fun us ws => us ++ ws) ∧ ∃ ds, Vals (List.replicate ks.length V.non) ds ∧ Binds K fd ps ds
section
variable {P : Program} {w : World} {K : PySem.W.Frag} {mg : Str → Option Value} {base : Heap} {k n : Nat} {x qual : Str} {st : Stmt} {N ps ks : List Str} {sp : Sp}
theorem DefKT.cal (D : DefKT K mg x qual st ps n ks) (h : ∀ f fd, Fun K x qual st f fd → FnOk P w K mg base CX0 k f fd ps sp) : CalN P w K mg base k x ps n ks sp := by
  obtain ⟨f, fd, F, hm, hb, hd⟩ := D.ex
  exact ⟨f, fd, h f fd F, hm, F.kp, hb, hd⟩
end
section
variable {X : Cx} {k n : Nat} {x : Str} {ps ks : List Str} {sp : Sp} {p pos : Pos} {e : Expr} {es : List Expr} {kws : List Keyword} {t tk : TA} {te : TE}
theorem pe_calN (c : CalN X.prog X.w X.K X.mg X.base k x ps n ks sp) (hr : Room k X.A) (hg : Gl X x) (ha : PA X (e :: es) t) (hkw : PK X kws tk) (hall : (backToKw pos (keywordEach kws X.env)).all (·.1.isSome) = true := by rfl) (hks : (backToKw pos (keywordEach kws X.env)).filterMap (·.1) = ks := by rfl)
    (hdb : (x == ("__debug__" : Str)) = false := by decide) (he : starEach (e :: es) X.env = (false, eval e X.env) :: starEach es X.env := by rfl)
    (hpl : ((backTo pos (starEach (e :: es) X.env)).any (·.1) || (backToKw pos (keywordEach kws X.env)).any (·.1.isNone)) = false := by rfl) :
    PE X (.Call (.Name x p) (e :: es) kws pos) (tCallN n ks.length sp (fun us ws => us ++ ws) E0 t tk) := by
  obtain ⟨f, fd, F, hm, hk, hb, _⟩ := c.ex
  exact pe_callN F hr hg hm hk hb pass0 ha hkw hall hks hdb he hpl
/-- no keyword is given: None stands for each -/
theorem pe_calD (c : CalN X.prog X.w X.K X.mg X.base k x ps n ks sp) (hr : Room k X.A) (hg : Gl X x) (ha : PA X (e :: es) t) (hdb : (x == ("__debug__" : Str)) = false := by decide) (he : starEach (e :: es) X.env = (false, eval e X.env) :: starEach es X.env := by rfl) (hpl : (backTo pos (starEach es X.env)).any (·.1) = false := by rfl) :
    PE X (.Call (.Name x p) (e :: es) [] pos) (tCall sp (List.replicate ks.length V.non) E0 t) := by
  obtain ⟨f, fd, F, hm, hk, _, ds, hd, hb⟩ := c.ex
  exact pe_call F hr hg hm hk hb hd pass0 ha hdb he hpl
end
section
variable {K : PySem.W.Frag} {Pm F : List Addr} {M : Mu} {Γ : Ga} {R : Dv → Mu → Prop}
theorem rpl_non (H : Hp) : ∀ m, RpL K H (List.replicate m V.non) (List.replicate m Dv.non)
  | 0 => .nil
  | m + 1 => .cons .non (rpl_non H m)
theorem wx_callD {n m k : Nat} {S : DS} {tA : TA} {E : XK} (hk : n + m = k) (h : WpA K Pm F tA Γ M fun ds M' => ds.length = n ∧ S (ds ++ List.replicate m .non) [] fun d N => R d (N ++ M')) : WpX K Pm F (tCall (spD K k S) (List.replicate m V.non) E tA) Γ M R := fun H0 σ H S0 Q q =>
  h H0 σ H S0 _ fun vs H1 ds M1 ⟨hn, hs⟩ S1 k1 r1 => by
    refine ⟨ads M1 ++ F, [], ds ++ List.replicate m .non, _, ?_, ⟨fun q hq => (nomatch hq), List.nodup_nil, fun a ha => ?_, fun a _ hm => (nomatch hm)⟩, ?_, hs, fun v H2 d N M2 hR ha hn hf hm r2 => ?_⟩
    · rw [List.length_append, r1.len, hn, List.length_replicate]; exact hk
    · rcases List.mem_append.mp ha with z | z
      · obtain ⟨q', hq, e⟩ := List.mem_map.mp z
        rw [← e]
        exact (S1.ms.ok q' hq).there
      · exact S1.ms.ff a z
    · exact r1.app (rpl_non _ m)
    · have e : Same H1 H2 := fun a o => hf a o (fun z => nomatch z)
      have e0 : M2 = [] := List.map_eq_nil_iff.mp ha
      subst e0
      rw [List.append_nil] at hR hm r2
      obtain ⟨S2, k2⟩ := S1.join e hn hm
      refine q v H2 d _ hR S2 (k1.trans k2) ?_
      have : ads (N ++ M1) ++ F = ads N ++ (ads M1 ++ F) := by simp only [ads, List.map_append, List.append_assoc]
      rw [this]
      exact r2
theorem wx_callN {n m k : Nat} {S : DS} {t tk : TA} {E : XK} (hk : n + m = k) (h : WpA K Pm F t Γ M fun ds M' => WpA K Pm F tk Γ M' fun es M2 => ds.length = n ∧ es.length = m ∧ S (ds ++ es) [] fun d N => R d (N ++ M2)) : WpX K Pm F (tCallN n m (spD K k S) (fun us ws => us ++ ws) E t tk) Γ M R := fun H0 σ H S0 Q q =>
  h H0 σ H S0 _ fun vs H1 ds M1 h1 S1 k1 r1 => h1 H0 σ H1 S1 _ fun zs H2 es M2 ⟨hn, hm, hs⟩ S2 k2 r2 => by
    have r := (r1.mono k2).app r2
    refine ⟨by rw [r1.len]; exact hn, by rw [r2.len]; exact hm, ads M2 ++ F, [], ds ++ es, _, ?_, ⟨fun q hq => (nomatch hq), List.nodup_nil, fun a ha => ?_, fun a _ hm => (nomatch hm)⟩, ?_, hs, fun v H3 d N M3 hR ha hn hf hm r3 => ?_⟩
    · show (vs ++ zs).length = k
      rw [List.length_append, r1.len, r2.len, hn, hm]; exact hk
    · rcases List.mem_append.mp ha with z | z
      · obtain ⟨q', hq, e⟩ := List.mem_map.mp z
        rw [← e]
        exact (S2.ms.ok q' hq).there
      · exact S2.ms.ff a z
    · exact r
    · have e : Same H2 H3 := fun a o => hf a o (fun z => nomatch z)
      have e0 : M3 = [] := List.map_eq_nil_iff.mp ha
      subst e0
      rw [List.append_nil] at hR hm r3
      obtain ⟨S3, k3⟩ := S2.join e hn hm
      refine q v H3 d _ hR S3 ((k1.trans k2).trans k3) ?_
      have : ads (N ++ M2) ++ F = ads N ++ (ads M2 ++ F) := by simp only [ads, List.map_append, List.append_assoc]
      rw [this]
      exact r3
end
/-- a step of a state -/
def stepO (w : Nat) : List Cd × List Nat → (List Cd × List Nat) × List Nat × Nat
  | (c :: r, v) => stepV w c r v
  | s => (s, [], 0)
def itS (w : Nat) : Nat → List Cd × List Nat → List Cd × List Nat
  | 0, s => s
  | n + 1, s => (stepO w (itS w n s)).1
structure StOk (D : Dk) (s : List Cd × List Nat) : Prop where
  pm : s.1.Perm D.cs
  ln : s.2.length = 4
theorem StOk.step {D : Dk} {s : List Cd × List Nat} (h : StOk D s) : StOk D (stepO D.w s).1 := by
  obtain ⟨o, v⟩ := s
  cases o with
  | nil => exact h
  | cons c r =>
    refine ⟨List.Perm.trans ?_ h.pm, ?_⟩
    · show (r.take _ ++ c :: r.drop _).Perm (c :: r)
      refine List.perm_middle.trans (List.Perm.cons c ?_)
      rw [List.take_append_drop]
    · show (runV D.w c.ac v).1.length = 4
      rw [runV_len]; exact h.ln
theorem StOk.its {D : Dk} {s : List Cd × List Nat} (h : StOk D s) : ∀ n, StOk D (itS D.w n s)
  | 0 => h
  | n + 1 => (StOk.its h n).step
theorem StOk.cons {N : Nat} {D : Dk} {s : List Cd × List Nat} (hD : Dk.okN N D) (h : StOk D s) : ∃ c r v, s = (c :: r, v) ∧ c ∈ D.cs ∧ r.length ≤ 8 ∧ v.length = 4 := by
  obtain ⟨o, v⟩ := s
  cases o with
  | nil =>
    have := h.pm.length_eq
    have h1 := hD.ne
    have h2 : ([] : List Cd).length = D.cs.length := this
    rw [← h2] at h1
    cases h1
  | cons c r =>
    have h2 : (c :: r).length = D.cs.length := h.pm.length_eq
    have h3 := hD.le
    rw [List.length_cons] at h2
    exact ⟨c, r, v, rfl, h.pm.mem_iff.mp (List.mem_cons_self ..), by omega, h.ln⟩
def frSt (D : Dk) (b : Option (List Cd × List Nat)) : List Cd × List Nat := b.getD (D.cs, [0, 0, 0, 0])
def S_state_after (a : Ads) : DS := fun ds M R => ∃ (x : Str) (D : Dk) (ts : List Tk) (n : Nat) (b : Option (List Cd × List Nat)), ds = [.str x, iN n, oSt b] ∧ M = [] ∧ D.ok ∧ x.length ≤ 50000 ∧ (∀ r ∈ Txt.split x "\n", r.length ≤ 50000) ∧ lexT x = some ts ∧ ts.length ≤ 50000 ∧ At ts 0 (deckT D) ∧ n ≤ 3000 ∧
  (∀ o v, b = some (o, v) → o.Perm D.cs ∧ v.length = 4 ∧ ∀ x ∈ v, x < D.w) ∧ R (stD (itS D.w n (frSt D b)).1 (itS D.w n (frSt D b)).2) []
end Dw
namespace Dw
open PySem L2 TL
theorem perm_of_map {α β : Type} (f : α → β) : ∀ (ys : List β) (l : List α), ys.Perm (l.map f) → ∃ l' : List α, ys = l'.map f ∧ l'.Perm l
  | [], l, h => ⟨[], rfl, by
      have := h.length_eq
      rw [List.length_map] at this
      rw [List.length_eq_zero_iff.mp this.symm]⟩
  | y :: t, l, h => by
    obtain ⟨a, ha, rfl⟩ := List.mem_map.mp (h.mem_iff.mp (List.mem_cons_self ..))
    obtain ⟨l1, l2, rfl⟩ := List.append_of_mem ha
    have h2 : (f a :: t).Perm (f a :: (l1 ++ l2).map f) := h.trans (List.perm_middle.map f)
    obtain ⟨l', rfl, hp⟩ := perm_of_map f t (l1 ++ l2) (List.Perm.cons_inv h2)
    exact ⟨a :: l', rfl, (List.Perm.cons a hp).trans List.perm_middle.symm⟩
theorem pl_eA (c : Ac) : Pl 1 (eA c) := by
  have h1 : PyData.strOk "add" = true := by decide +kernel
  have h2 : PyData.strOk "copy" = true := by decide +kernel
  have h3 : PyData.strOk "swap" = true := by decide +kernel
  have h4 : PyData.strOk "emit" = true := by decide +kernel
  cases c <;> (intro x hx; rcases List.mem_cons.mp hx with rfl | hx; · (first | exact h1 | exact h2 | exact h3 | exact h4)) <;> (rcases List.mem_cons.mp hx with rfl | hx; · exact True.intro) <;> (rw [List.mem_singleton.mp hx]; exact True.intro)
theorem pl_eP (c : Pu) : Pl 1 (eP c) := by
  cases c <;> (intro x hx; rcases List.mem_cons.mp hx with rfl | hx; · exact True.intro) <;> (rcases List.mem_cons.mp hx with rfl | hx; · exact True.intro) <;> (rw [List.mem_singleton.mp hx]; exact True.intro)
theorem Pl.up : ∀ {n : Nat} {d : Dv}, Pl n d → Pl (n + 1) d
  | _, .non, _ => True.intro
  | _, .bl _, _ => True.intro
  | _, .int _, _ => True.intro
  | 0, .str _, h => h
  | _ + 1, .str _, h => h
  | n + 1, .lst xs, h => fun x hx => Pl.up (n := n) (h x hx)
  | n + 1, .tup xs, h => fun x hx => Pl.up (n := n) (h x hx)
  | 0, .lst _, h => h.elim
  | 0, .tup _, h => h.elim
  | 0, .ins _ _, h => h.elim
  | 0, .dic _, h => h.elim
  | 0, .sql _, h => h.elim
  | 0, .adr _, h => h.elim
  | 0, .stp _, h => h.elim
  | _ + 1, .ins _ _, h => h.elim
  | _ + 1, .dic _, h => h.elim
  | _ + 1, .sql _, h => h.elim
  | _ + 1, .adr _, h => h.elim
  | _ + 1, .stp _, h => h.elim
theorem pl_eC {w : Nat} {c : Cd} (h : c.ok w) : Pl 3 (eC c) := by
  have hs : ∀ s ∈ namesA, PyData.strOk s = true := by decide +kernel
  intro x hx
  rcases List.mem_cons.mp hx with rfl | hx
  · exact hs _ h.nm
  rcases List.mem_cons.mp hx with rfl | hx
  · intro y hy
    obtain ⟨a, _, rfl⟩ := List.mem_map.mp hy
    exact pl_eA a
  · rw [List.mem_singleton.mp hx]
    exact (pl_eP c.pu).up
def S_random_state : DS := fun ds M R => ∃ (r : Addr) (l : List Int) (D : Dk), ds = [.adr r, eD D] ∧ M = [(r, rl l)] ∧ Rnd l ∧ D.ok ∧ ∀ o v l', o.Perm D.cs → v.length = 4 → (∀ x ∈ v, x < D.w) → Rnd l' → R (lwD o v) [(r, rl l')]
end Dw
namespace Dw
open PySem L2 TL
section
variable {K : PySem.W.Frag} {Pm F : List Addr} {M : Mu} {Γ : Ga} {R : Dv → Mu → Prop} {H0 H : Hp} {σ : L2.St}
theorem ads_app (A B : Mu) : ads (A ++ B) = ads A ++ ads B := List.map_append ..
/-- the tail of the mutable objects is handed over -/
theorem Stt.callT {n : Nat} {Sp : DS} {E : XK} {Q : VK} {vs : List V} {ds : List Dv} {A B : Mu} {H1 : Hp} (S1 : Stt K Pm F (A ++ B) H0 H1 σ Γ) (r1 : RpL K (hid (ads (A ++ B) ++ F) H1) vs ds) (hn : ds.length = n)
    (hs : Sp ds B fun d M2 => ∀ N B', M2 = N ++ B' → ads B' = ads B → R d (N ++ (A ++ B'))) (q : ∀ v H' d M', R d M' → Stt K Pm F M' H0 H' σ Γ → Kp F (A ++ B) H1 M' H' → Rp K (hid (ads M' ++ F) H') v d → Q v H') : spD K n Sp vs H1 Q E := by
  have hmem : ∀ a, a ∈ ads B ++ (ads A ++ F) ↔ a ∈ ads (A ++ B) ++ F := fun a => by
    rw [ads_app]
    simp only [List.mem_append]
    constructor
    · rintro (h | h | h)
      · exact .inl (.inr h)
      · exact .inl (.inl h)
      · exact .inr h
    · rintro ((h | h) | h)
      · exact .inr (.inl h)
      · exact .inl h
      · exact .inr (.inr h)
  have nd1 := S1.ms.nd
  rw [ads_app] at nd1
  have ndA := List.nodup_append.mp nd1
  refine ⟨ads A ++ F, B, ds, _, ?_, ⟨fun q hq => ?_, ndA.2.1, fun a ha => ?_, fun a ha hm => ?_⟩, ?_, hs, fun v H2 d N M2 hR ha hnew hf hm r2 => ?_⟩
  · rw [r1.len]; exact hn
  · refine (S1.ms.ok q (List.mem_append_right _ hq)).keep ?_ fun o e => e
    rw [hid_congr hmem]
    exact Same.refl _
  · rcases List.mem_append.mp ha with z | z
    · obtain ⟨q', hq, e⟩ := List.mem_map.mp z
      rw [← e]
      exact (S1.ms.ok q' (List.mem_append_left _ hq)).there
    · exact S1.ms.ff a z
  · rcases List.mem_append.mp ha with z | z
    · exact ndA.2.2 a z a hm rfl
    · exact S1.ms.ap a z (by rw [ads_app]; exact List.mem_append_right _ hm)
  · rw [hid_congr hmem]; exact r1
  · have hRR := hR N M2 rfl ha
    have hh : ∀ a, a ∈ ads (N ++ M2) ++ (ads A ++ F) ↔ a ∈ ads N ++ (ads (A ++ B) ++ F) := fun a => by
      rw [ads_app, ads_app, ha]
      simp only [List.mem_append]
      constructor
      · rintro ((h | h) | h | h)
        · exact .inl h
        · exact .inr (.inl (.inr h))
        · exact .inr (.inl (.inl h))
        · exact .inr (.inr h)
      · rintro (h | (h | h) | h)
        · exact .inl (.inl h)
        · exact .inr (.inl h)
        · exact .inl (.inr h)
        · exact .inr (.inr h)
    have eall : ads (N ++ (A ++ M2)) ++ F = ads N ++ (ads (A ++ B) ++ F) := by
      rw [ads_app, ads_app, ads_app, ha, List.append_assoc]
    have hp0 : ∀ q ∈ N, q.1 ∉ ads (A ++ B) ++ F := fun q hq z => S1.ms.fresh (hnew q hq) z
    have hk : Same (hid (ads (A ++ B) ++ F) H1) (hid (ads N ++ (ads (A ++ B) ++ F)) H2) := fun a o z => by
      obtain ⟨n, w⟩ := hid_some z
      have : a ∉ ads N ++ (ads (A ++ B) ++ F) := fun y => by
        rcases List.mem_append.mp y with y | y
        · obtain ⟨q', hq, e⟩ := List.mem_map.mp y
          have := hnew q' hq
          rw [e, w] at this; cases this
        · exact n y
      rw [hid_out this]
      exact hf a o (fun y => n (List.mem_append_left _ (by rw [ads_app]; exact List.mem_append_right _ y))) w
    have locB : ∀ a, a ∈ ads (A ++ B) → a ∈ Pm ∨ H0 a = none := fun a h => by
      obtain ⟨q', hq, e⟩ := List.mem_map.mp h
      rw [← e]
      exact S1.loc q' hq
    have eAB : ads (A ++ M2) = ads (A ++ B) := by rw [ads_app, ads_app, ha]
    have S2 : Stt K Pm F (N ++ (A ++ M2)) H0 H2 σ Γ := by
      refine ⟨fun a o n z => ?_, fun q hq => ?_, ⟨fun q hq => ?_, ?_, fun a ha' => ?_, fun a ha' hm' => ?_⟩, ?_⟩
      · refine hf a o (fun y => ?_) (S1.fr a o n z)
        rcases locB a (by rw [ads_app]; exact List.mem_append_right _ y) with w | w
        · exact n w
        · rw [w] at z; cases z
      · rcases List.mem_append.mp hq with z | z
        · by_cases hpm : q.1 ∈ Pm
          · exact .inl hpm
          · refine .inr ?_
            cases w : H0 q.1 with
            | none => rfl
            | some o =>
              have := S1.fr _ o hpm w
              rw [hnew q z] at this; cases this
        · refine locB q.1 ?_
          rw [← eAB]
          exact List.mem_map.mpr ⟨q, z, rfl⟩
      · rw [eall]
        rcases List.mem_append.mp hq with z | z
        · exact (hm.ok q (List.mem_append_left _ z)).keep (by rw [hid_congr hh]; exact Same.refl _) fun o e => e
        · rcases List.mem_append.mp z with z | z
          · refine (S1.ms.ok q (List.mem_append_left _ z)).keep hk fun o => hf _ o fun y => ?_
            exact ndA.2.2 q.1 (List.mem_map.mpr ⟨q, z, rfl⟩) q.1 y rfl
          · exact (hm.ok q (List.mem_append_right _ z)).keep (by rw [hid_congr hh]; exact Same.refl _) fun o e => e
      · rw [ads_app, eAB]
        have ndN : (ads N).Nodup := by
          have := hm.nd
          rw [ads_app] at this
          exact (List.nodup_append.mp this).1
        refine List.nodup_append.mpr ⟨ndN, S1.ms.nd, fun a ha1 b hb e' => ?_⟩
        subst e'
        obtain ⟨q', hq, e⟩ := List.mem_map.mp ha1
        exact hp0 q' hq (by rw [e]; exact List.mem_append_left _ hb)
      · obtain ⟨o, z⟩ := S1.ms.ff a ha'
        exact ⟨o, hf a o (fun y => S1.ms.ap a ha' (by rw [ads_app]; exact List.mem_append_right _ y)) z⟩
      · rw [ads_app, eAB] at hm'
        rcases List.mem_append.mp hm' with z | z
        · obtain ⟨q', hq, e⟩ := List.mem_map.mp z
          exact hp0 q' hq (by rw [e]; exact List.mem_append_right _ ha')
        · exact S1.ms.ap a ha' z
      · rw [eall]
        exact S1.s.keep hk
    refine q v H2 d _ hRR S2 ?_ ?_
    · show Same _ (hid (ads (N ++ (A ++ M2)) ++ F) H2)
      rw [eall]; exact hk
    · rw [eall, ← hid_congr hh]
      exact r2
theorem wx_callT {n : Nat} {Sp : DS} {tA : TA} {E : XK} (h : WpA K Pm F tA Γ M fun ds M' => ds.length = n ∧ ∃ A B, M' = A ++ B ∧ Sp ds B fun d M2 => ∀ N B', M2 = N ++ B' → ads B' = ads B → R d (N ++ (A ++ B'))) :
    WpX K Pm F (tCall (spD K n Sp) [] E tA) Γ M R := fun H0 σ H S0 Q q =>
  h H0 σ H S0 _ fun vs H1 ds M1 ⟨hn, A, B, e, hs⟩ S1 k1 r1 => by
    subst e
    rw [List.append_nil]
    exact S1.callT r1 hn hs fun v H' d M' hR S' k' r' => q v H' d M' hR S' (k1.trans k') r'
end
end Dw
namespace Dw
open PySem L2 TL
/-- x, its lists looked up in M, is d; n deep at most -/
inductive Eqd (M : Mu) : Nat → Dv → Dv → Prop
  | non {n : Nat} : Eqd M n .non .non
  | int {n : Nat} (i : Int) : Eqd M n (.int i) (.int i)
  | str {n : Nat} (x : Str) : Eqd M n (.str x) (.str x)
  | bl {n : Nat} (b : Bool) : Eqd M n (.bl b) (.bl b)
  | tup {n : Nat} {xs ds : List Dv} : xs.length = ds.length → ds.length ≤ 1000 → (∀ (i : Nat) x d, xs[i]? = some x → ds[i]? = some d → Eqd M n x d) → Eqd M (n + 1) (.tup xs) (.tup ds)
  | lst {n : Nat} {xs ds : List Dv} : xs.length = ds.length → ds.length ≤ 1000 → (∀ (i : Nat) x d, xs[i]? = some x → ds[i]? = some d → Eqd M n x d) → Eqd M (n + 1) (.lst xs) (.lst ds)
  | adr {n j : Nat} {p : Addr} {xs ds : List Dv} : M[j]? = some (p, .lst xs) → xs.length = ds.length → ds.length ≤ 1000 → (∀ (i : Nat) x d, xs[i]? = some x → ds[i]? = some d → Eqd M n x d) → Eqd M (n + 1) (.adr p) (.lst ds)
def S_equal (n : Nat) : DS := fun ds M R => ∃ (x d : Dv), ds = [x, d] ∧ Eqd M n x d ∧ R (.bl true) M
theorem tail_all {B N B' : Mu} (h : B = N ++ B') (ha : ads B' = ads B) : N = [] ∧ B' = B := by
  have h1 : B'.length = B.length := by
    have := congrArg List.length ha
    simpa [ads] using this
  have h2 := congrArg List.length h
  rw [List.length_append] at h2
  have h3 : N = [] := List.length_eq_zero_iff.mp (by omega)
  subst h3
  exact ⟨rfl, h.symm⟩
section
variable {K : PySem.W.Frag} {Pm F : List Addr} {M : Mu} {Γ : Ga} {R : Dv → Mu → Prop} {H0 H : Hp} {σ : L2.St} {te : TE}
theorem ed_isiM {p : Addr} {i : Nat} {xs : List Dv} {c : String} {b : Bool} (h : EvD K F M te Γ (.adr p)) (hi : M[i]? = some (p, .lst xs)) (hb : PySem.W.kitOne K (.type "list") (.type c) = some b) : EvD K F M (tCB (rIsiG K) (tCons te (tCons (tC (.ty c)) tNil))) Γ (.bl b) := fun σ H m s Q q =>
  h σ H m s _ fun v H1 e1 r1 => by
    cases r1
    obtain ⟨ys, hy, _⟩ := (m.mono e1).ok _ (List.mem_of_getElem? hi)
    exact ⟨.ref p, .ty c, .type "list", .type c, b, rfl, .ty c, .base (.lst hy), hb, q _ H1 e1 (.bl b)⟩
theorem ed_notB {b : Bool} (h : EvD K F M te Γ (.bl b)) : EvD K F M (tNotT K te) Γ (.bl (!b)) := fun σ H m s Q q => h σ H m s _ fun v H1 e1 r1 => by
  cases r1
  exact ⟨b, rfl, q _ H1 e1 (.bl _)⟩
theorem od_eqB {i j : Bool} : OpD K F M (rEqG K) (.bl i) (.bl j) (.bl (decide (i = j))) := fun v w H m r1 r2 Q q => by
  cases r1; cases r2
  refine .inl ⟨rfl, ?_⟩
  have e : decide (V.bl i = V.bl j) = decide (i = j) := decide_eq_decide.mpr ⟨fun h => by cases h; rfl, fun h => by rw [h]⟩
  rw [e]
  exact q _ H (Same.refl H) (.bl _)
theorem od_neB {i j : Bool} : OpD K F M (rNeG K) (.bl i) (.bl j) (.bl (!decide (i = j))) := fun v w H m r1 r2 Q q => by
  cases r1; cases r2
  refine .inl ⟨rfl, ?_⟩
  have e : decide (V.bl i = V.bl j) = decide (i = j) := decide_eq_decide.mpr ⟨fun h => by cases h; rfl, fun h => by rw [h]⟩
  rw [e]
  exact q _ H (Same.refl H) (.bl _)
end
end Dw
namespace Dw
open PySem L2 TL
theorem findEnd_shift (row : List Nat) (c : Nat) : findEnd row c = c + findEnd (row.drop c) 0 := by
  unfold findEnd
  have e : (row.drop c)[0]? = row[c]? := by rw [List.getElem?_drop]; rfl
  rw [e]
  cases row[c]? with
  | none => show c + 1 = c + (0 + 1); omega
  | some x =>
    show (if isLo x = true then _ else _) = c + (if isLo x = true then _ else _)
    simp only [List.drop_zero]
    split
    · omega
    · split
      · omega
      · split <;> omega
/-- l is written by these words, spaces between them -/
inductive Lx : List Nat → List W2 → Prop
  | nil : Lx [] []
  | sp {r : List Nat} {ws : List W2} : Lx r ws → Lx (32 :: r) ws
  | wd {w r : List Nat} {k : Str} {ws : List W2} : w ≠ [] → w[0]? ≠ some 32 → findEnd (w ++ r) 0 = w.length → kindOf (mk w) = some k → Lx r ws → Lx (w ++ r) ((k, mk w) :: ws)
theorem Lx.row {l : List Nat} {ws : List W2} (h : Lx l ws) : ∀ (row : List Nat) (ln c f : Nat), row.drop c = l → row.length ≤ c + f → ∃ ts, lexRow row ln f c = some ts ∧ ts.map (fun t => (t.kd, t.tx)) = ws := by
  induction h with
  | nil =>
    intro row ln c f hd hf
    have : row.length ≤ c := List.drop_eq_nil_iff.mp hd
    cases f with
    | zero => exact ⟨[], rfl, rfl⟩
    | succ f =>
      refine ⟨[], ?_, rfl⟩
      simp only [lexRow]
      rw [if_neg (by omega)]
  | @sp r ws h ih =>
    intro row ln c f hd hf
    have hc : c < row.length := by
      have := congrArg List.length hd
      rw [List.length_drop, List.length_cons] at this
      omega
    have hx : row[c]? = some 32 := by rw [← List.head?_drop, hd]; rfl
    obtain ⟨g, rfl⟩ : ∃ g, f = g + 1 := ⟨f - 1, by omega⟩
    obtain ⟨ts, h1, h2⟩ := ih row ln (c + 1) g (by rw [← List.drop_drop, hd]; rfl) (by omega)
    refine ⟨ts, ?_, h2⟩
    simp only [lexRow]
    rw [if_pos hc, if_pos hx]
    exact h1
  | @wd w r k ws hw h32 hend hk h ih =>
    intro row ln c f hd hf
    have hl := congrArg List.length hd
    rw [List.length_drop, List.length_append] at hl
    have hwl : 0 < w.length := List.length_pos_iff.mpr hw
    have hc : c < row.length := by omega
    have hx : row[c]? ≠ some 32 := by
      have : row[c]? = w[0]? := by
        rw [← List.head?_drop, hd, List.head?_eq_getElem?, List.getElem?_append_left hwl]
      rw [this]; exact h32
    obtain ⟨g, rfl⟩ : ∃ g, f = g + 1 := ⟨f - 1, by omega⟩
    have he : findEnd row c = c + w.length := by rw [findEnd_shift, hd, hend]
    have ht : (row.drop c).take (findEnd row c - c) = w := by
      rw [he, Nat.add_sub_cancel_left, hd, List.take_left']
      rfl
    obtain ⟨ts, h1, h2⟩ := ih row ln (c + w.length) g (by rw [← List.drop_drop, hd, List.drop_left']; rfl) (by omega)
    refine ⟨⟨k, mk w, ln, c⟩ :: ts, ?_, by rw [List.map_cons, h2]⟩
    simp only [lexRow]
    rw [if_pos hc, if_neg hx, ht, hk]
    show (lexRow row ln g (findEnd row c)).map _ = _
    rw [he, h1]
    rfl
end Dw
namespace Dw
open PySem L2 TL
theorem takeW {p : Nat → Bool} : ∀ {w r : List Nat}, w.all p = true → (∀ x, r[0]? = some x → p x = false) → (w ++ r).takeWhile p = w
  | [], [], _, _ => rfl
  | [], x :: r, _, h => by
    have := h x rfl
    show (x :: r).takeWhile p = []
    rw [List.takeWhile_cons, this]; rfl
  | y :: w, r, h, h2 => by
    rw [List.all_cons, Bool.and_eq_true] at h
    show (y :: (w ++ r)).takeWhile p = _
    rw [List.takeWhile_cons, h.1, takeW h.2 h2]; rfl
theorem lo_sp {x : Nat} (h : isLo x = true) : x ≠ 32 := fun e => by subst e; revert h; decide +kernel
theorem dg_sp {x : Nat} (h : isDg x = true) : x ≠ 32 := fun e => by subst e; revert h; decide +kernel
theorem dg_lo {x : Nat} (h : isDg x = true) : isLo x = false := by
  have key : ∀ x ∈ tl sDig, isLo x = false := by decide +kernel
  exact key x (of_decide_eq_true h)
/-- a word of letters -/
theorem lx_lo {w r : List Nat} {k : Str} {ws : List W2} (h0 : w ≠ []) (hw : w.all isLo = true) (hk : kindOf (mk w) = some k) (hr : ∀ x, r[0]? = some x → isLo x = false) (h : Lx r ws) : Lx (w ++ r) ((k, mk w) :: ws) := by
  cases w with
  | nil => exact absurd rfl h0
  | cons y w =>
    have hy : isLo y = true := by rw [List.all_cons, Bool.and_eq_true] at hw; exact hw.1
    refine Lx.wd h0 (fun e => lo_sp hy (Option.some.inj e)) ?_ hk h
    show (if isLo y = true then 0 + (((y :: w) ++ r).takeWhile isLo).length else _) = _
    rw [if_pos hy, takeW hw hr, Nat.zero_add]
/-- a number -/
theorem lx_dg {w r : List Nat} {k : Str} {ws : List W2} (h0 : w ≠ []) (hw : w.all isDg = true) (hk : kindOf (mk w) = some k) (hr : ∀ x, r[0]? = some x → isDg x = false) (h : Lx r ws) : Lx (w ++ r) ((k, mk w) :: ws) := by
  cases w with
  | nil => exact absurd rfl h0
  | cons y w =>
    have hy : isDg y = true := by rw [List.all_cons, Bool.and_eq_true] at hw; exact hw.1
    refine Lx.wd h0 (fun e => dg_sp hy (Option.some.inj e)) ?_ hk h
    show (if isLo y = true then _ else if isDg y = true then 0 + (((y :: w) ++ r).takeWhile isDg).length else _) = _
    rw [if_neg (by rw [dg_lo hy]; decide), if_pos hy, takeW hw hr, Nat.zero_add]
theorem lx_arrow {r : List Nat} {ws : List W2} (h : Lx r ws) : Lx ([45, 62] ++ r) (w2 "->" :: ws) := by
  refine Lx.wd (w := [45, 62]) (by simp) (by decide) ?_ (by decide +kernel) h
  have e1 : isLo 45 = false := by decide +kernel
  have e2 : isDg 45 = false := by decide +kernel
  unfold findEnd
  show (if isLo 45 = true then 0 + ((([45, 62] ++ r : List Nat).drop 0).takeWhile isLo).length else if isDg 45 = true then 0 + ((([45, 62] ++ r : List Nat).drop 0).takeWhile isDg).length else if ((([45, 62] ++ r : List Nat).drop 0).take 2) = [45, 62] then 0 + 2 else 0 + 1) = 2
  rw [e1, e2]
  rfl
theorem lx_sign {x : Nat} {r : List Nat} {ws : List W2} (hx : x = 58 ∨ x = 44 ∨ x = 59 ∨ x = 63) (h : Lx r ws) : Lx ([x] ++ r) ((mk [x], mk [x]) :: ws) := by
  have e1 : isLo x = false := by rcases hx with rfl | rfl | rfl | rfl <;> decide +kernel
  have e2 : isDg x = false := by rcases hx with rfl | rfl | rfl | rfl <;> decide +kernel
  have hk : kindOf (mk [x]) = some (mk [x]) := by rcases hx with rfl | rfl | rfl | rfl <;> decide +kernel
  refine Lx.wd (w := [x]) (by simp) (fun e => by have := Option.some.inj e; omega) ?_ hk h
  unfold findEnd
  show (if isLo x = true then 0 + ((([x] ++ r : List Nat).drop 0).takeWhile isLo).length else if isDg x = true then 0 + ((([x] ++ r : List Nat).drop 0).takeWhile isDg).length else if ((([x] ++ r : List Nat).drop 0).take 2) = [45, 62] then 0 + 2 else 0 + 1) = 1
  rw [e1, e2]
  have : ¬ ((([x] ++ r : List Nat).drop 0).take 2) = [45, 62] := fun e => by
    have : x = 45 := (List.cons.inj (show x :: _ = 45 :: _ from e)).1
    omega
  rw [if_neg (by decide), if_neg (by decide), if_neg this]
/-- small numbers, registers, names -/
theorem lx_num {n : Nat} {r : List Nat} {ws : List W2} (hn : n < 17) (hr : ∀ x, r[0]? = some x → isDg x = false) (h : Lx r ws) : Lx (numL n ++ r) (("number", num n) :: ws) := by
  have key : ∀ n < 17, numL n ≠ [] ∧ (numL n).all isDg = true ∧ kindOf (mk (numL n)) = some ("number" : Str) := by decide +kernel
  obtain ⟨a, b, c⟩ := key n hn
  rw [num_mk]
  exact lx_dg a b c hr h
theorem lx_reg {n : Nat} {r : List Nat} {ws : List W2} (hn : n < 4) (hr : ∀ x, r[0]? = some x → isLo x = false) (h : Lx r ws) : Lx (regL n ++ r) (("letter", mk (regL n)) :: ws) := by
  have key : ∀ n < 4, regL n ≠ [] ∧ (regL n).all isLo = true ∧ kindOf (mk (regL n)) = some ("letter" : Str) := by decide +kernel
  obtain ⟨a, b, c⟩ := key n hn
  exact lx_lo a b c hr h
theorem lx_name {s : Str} {r : List Nat} {ws : List W2} (hs : s ∈ namesA) (hr : ∀ x, r[0]? = some x → isLo x = false) (h : Lx r ws) : Lx (tl s ++ r) (("name", s) :: ws) := by
  have key : ∀ s ∈ namesA, tl s ≠ [] ∧ (tl s).all isLo = true ∧ kindOf (mk (tl s)) = some ("name" : Str) := by decide +kernel
  obtain ⟨a, b, c⟩ := key s hs
  have := lx_lo a b c hr h
  rwa [mk_tl'] at this
end Dw
namespace Dw
open PySem L2 TL
def kw5 : List Str := ["add", "copy", "swap", "emit", "wrap"]
theorem lx_kw {s : Str} {r : List Nat} {ws : List W2} (hs : s ∈ kw5) (h : Lx r ws) : Lx (tl s ++ (32 :: r)) ((s, s) :: ws) := by
  have key : ∀ s ∈ kw5, tl s ≠ [] ∧ (tl s).all isLo = true ∧ kindOf (mk (tl s)) = some s := by decide +kernel
  obtain ⟨a, b, c⟩ := key s hs
  have := lx_lo a b c (r := 32 :: r) (fun x e => by rw [← Option.some.inj e]; decide +kernel) (.sp h)
  rwa [mk_tl'] at this
/-- behind a word -/
def Sep (r : List Nat) : Prop := ∀ x, r[0]? = some x → isLo x = false ∧ isDg x = false
theorem sep_nil : Sep [] := fun _ h => (nomatch h)
theorem sep_cons {x : Nat} {r : List Nat} (hx : x = 32 ∨ x = 44 ∨ x = 45 ∨ x = 58 ∨ x = 59 ∨ x = 63) : Sep (x :: r) := fun y h => by
  rw [← Option.some.inj h]
  rcases hx with rfl | rfl | rfl | rfl | rfl | rfl <;> decide +kernel
theorem lx_act {w : Nat} {a : Ac} {r : List Nat} {ws : List W2} (hw : w ≤ 16) (ha : a.ok w) (hr : Sep r) (h : Lx r ws) : Lx (actL a ++ r) (actT a ++ ws) := by
  have t1 : tl ("add" : Str) = [97, 100, 100] := by decide +kernel
  have t2 : tl ("copy" : Str) = [99, 111, 112, 121] := by decide +kernel
  have t3 : tl ("swap" : Str) = [115, 119, 97, 112] := by decide +kernel
  have t4 : tl ("emit" : Str) = [101, 109, 105, 116] := by decide +kernel
  have s32 : ∀ l : List Nat, Sep (32 :: l) := fun l => sep_cons (.inl rfl)
  cases a with
  | add q n =>
    have e : actL (.add q n) ++ r = tl ("add" : Str) ++ (32 :: (regL q ++ (32 :: (numL n ++ r)))) := by rw [t1]; simp [actL]
    rw [e]
    exact lx_kw (by decide) (lx_reg ha.1 (fun x q => (s32 _ x q).1) (.sp (lx_num (by have := ha.2; omega) (fun x q => (hr x q).2) h)))
  | copy q s =>
    have e : actL (.copy q s) ++ r = tl ("copy" : Str) ++ (32 :: (regL q ++ (32 :: (regL s ++ r)))) := by rw [t2]; simp [actL]
    rw [e]
    exact lx_kw (by decide) (lx_reg ha.1 (fun x q => (s32 _ x q).1) (.sp (lx_reg ha.2 (fun x q => (hr x q).1) h)))
  | swap q s =>
    have e : actL (.swap q s) ++ r = tl ("swap" : Str) ++ (32 :: (regL q ++ (32 :: (regL s ++ r)))) := by rw [t3]; simp [actL]
    rw [e]
    exact lx_kw (by decide) (lx_reg ha.1 (fun x q => (s32 _ x q).1) (.sp (lx_reg ha.2 (fun x q => (hr x q).1) h)))
  | emr q =>
    have e : actL (.emr q) ++ r = tl ("emit" : Str) ++ (32 :: (regL q ++ r)) := by rw [t4]; simp [actL]
    rw [e]
    exact lx_kw (by decide) (lx_reg ha (fun x q => (hr x q).1) h)
  | emn n =>
    have e : actL (.emn n) ++ r = tl ("emit" : Str) ++ (32 :: (numL n ++ r)) := by rw [t4]; simp [actL]
    rw [e]
    exact lx_kw (by decide) (lx_num (by have : n < w := ha; omega) (fun x q => (hr x q).2) h)
theorem lx_s {x : Nat} {s : Str} {r : List Nat} {ws : List W2} (hx : x = 58 ∨ x = 44 ∨ x = 59 ∨ x = 63) (hs : mk [x] = s) (h : Lx r ws) : Lx (x :: r) (w2 s :: ws) := by
  have := lx_sign hx h
  rw [hs] at this
  exact this
theorem lx_put {c : Pu} {r : List Nat} {ws : List W2} (hc : c.ok) (hr : Sep r) (h : Lx r ws) : Lx (putL c ++ r) (putT c ++ ws) := by
  have s32 : ∀ l : List Nat, Sep (32 :: l) := fun l => sep_cons (.inl rfl)
  cases c with
  | num n => exact lx_num (by have : n ≤ 9 := hc; omega) (fun x q => (hr x q).2) h
  | reg q => exact lx_reg hc (fun x q => (hr x q).1) h
  | cho q m n =>
    have e : putL (.cho q m n) ++ r = regL q ++ (32 :: 63 :: 32 :: (numL m ++ (32 :: 58 :: 32 :: (numL n ++ r)))) := by simp [putL]
    rw [e]
    exact lx_reg hc.1 (fun x q => (s32 _ x q).1) (.sp (lx_s (by simp) (by decide +kernel) (.sp (lx_num (by have := hc.2.1; omega) (fun x q => (s32 _ x q).2) (.sp (lx_s (by simp) (by decide +kernel) (.sp (lx_num (by have := hc.2.2; omega) (fun x q => (hr x q).2) h))))))))
theorem lx_acts {w : Nat} (hw : w ≤ 16) : ∀ {as : List Ac} {r : List Nat} {ws : List W2}, (∀ a ∈ as, a.ok w) → Sep r → Lx r ws → Lx (joinL [44, 32] (as.map actL) ++ r) (actsT as ++ ws)
  | [], r, ws, _, _, h => h
  | [a], r, ws, ha, hr, h => by
    have e : joinL [44, 32] ([a].map actL) = actL a := by simp [joinL]
    rw [e]
    exact lx_act hw (ha a (List.mem_cons_self ..)) hr h
  | a :: b :: t, r, ws, ha, hr, h => by
    have e : joinL [44, 32] ((a :: b :: t).map actL) ++ r = actL a ++ (44 :: 32 :: (joinL [44, 32] ((b :: t).map actL) ++ r)) := by simp [joinL]
    have e2 : actsT (a :: b :: t) ++ ws = actT a ++ (w2 "," :: (actsT (b :: t) ++ ws)) := by simp [actsT]
    rw [e, e2]
    exact lx_act hw (ha a (List.mem_cons_self ..)) (sep_cons (by simp)) (lx_s (by simp) (by decide +kernel) (.sp (lx_acts hw (fun x hx => ha x (List.mem_cons_of_mem _ hx)) hr h)))
theorem lx_card {w : Nat} {c : Cd} (hw : w ≤ 16) (hc : c.ok w) : Lx (cardL c) (cardT c) := by
  have hend : Lx [59] [w2 ";"] := lx_s (by simp) (by decide +kernel) .nil
  have hput := lx_put hc.pu (r := [59]) (ws := [w2 ";"]) (sep_cons (by simp)) hend
  have harr : Lx ([45, 62] ++ (32 :: (putL c.pu ++ [59]))) (w2 "->" :: (putT c.pu ++ [w2 ";"])) := lx_arrow (.sp hput)
  have hmid : Lx (joinL [44, 32] (c.ac.map actL) ++ ((if c.ac = [] then [] else [32]) ++ ([45, 62] ++ (32 :: (putL c.pu ++ [59]))))) (actsT c.ac ++ (w2 "->" :: (putT c.pu ++ [w2 ";"]))) := by
    refine lx_acts hw hc.ac ?_ ?_
    · split
      · exact sep_cons (by simp)
      · exact sep_cons (by simp)
    · split
      · exact harr
      · exact .sp harr
  have e : cardL c = tl c.nm ++ (58 :: 32 :: (joinL [44, 32] (c.ac.map actL) ++ ((if c.ac = [] then [] else [32]) ++ ([45, 62] ++ (32 :: (putL c.pu ++ [59])))))) := by
    unfold cardL
    simp only [List.append_assoc, List.cons_append, List.nil_append]
  rw [e]
  exact lx_name hc.nm (fun x q => by rw [← Option.some.inj q]; decide +kernel) (lx_s (by simp) (by decide +kernel) (.sp hmid))
theorem lx_head {w : Nat} (hw : w ≤ 16) : Lx ([119, 114, 97, 112, 32] ++ numL w ++ [59]) [w2 "wrap", ("number", num w), w2 ";"] := by
  have t1 : tl ("wrap" : Str) = [119, 114, 97, 112] := by decide +kernel
  have e : [119, 114, 97, 112, 32] ++ numL w ++ [59] = tl ("wrap" : Str) ++ (32 :: (numL w ++ [59])) := by rw [t1]; simp
  rw [e]
  exact lx_kw (by decide) (lx_num (by omega) (fun x q => by rw [← Option.some.inj q]; decide +kernel) (lx_s (by simp) (by decide +kernel) .nil))
end Dw
namespace Dw
open PySem L2 TL
theorem split_rows {parts : List (List Nat)} (hne : parts ≠ []) (hn : ∀ p ∈ parts, 10 ∉ p) : Txt.split (mk (joinL [10] parts)) "\n" = parts.map mk := by
  have h1 : tl ("\n" : Str) = [10] := by decide +kernel
  have h2 := split_spl (mk (joinL [10] parts)) ("\n" : Str) (by rw [h1]; simp) (kind_ok (by decide +kernel))
  rw [h1, show tl (mk (joinL [10] parts)) = joinL [10] parts from rfl, spl_join hne hn] at h2
  have h3 : ∀ l : List Str, l.map tl = parts → l = parts.map mk := fun l e => by
    rw [← e, List.map_map]
    have : (mk ∘ tl) = id := funext fun x => mk_tl' x
    rw [this, List.map_id]
  exact h3 _ h2
theorem lex_rows : ∀ (pw : List (List Nat × List W2)) (i : Nat), (∀ q ∈ pw, Lx q.1 q.2) → ∃ ts, lexRows (pw.map fun q => mk q.1) i = some ts ∧ ts.map (fun t => (t.kd, t.tx)) = (pw.map (·.2)).flatten
  | [], _, _ => ⟨[], rfl, rfl⟩
  | q :: pw, i, h => by
    have hq := (h q (List.mem_cons_self ..)).row q.1 i 0 (mk q.1).length rfl (by rw [mk_len]; omega)
    obtain ⟨t1, a1, b1⟩ := hq
    obtain ⟨t2, a2, b2⟩ := lex_rows pw (i + 1) fun x hx => h x (List.mem_cons_of_mem _ hx)
    refine ⟨t1 ++ t2, ?_, by rw [List.map_append, b1, b2]; rfl⟩
    show (match lexRow (tl (mk q.1)) i (mk q.1).length 0, lexRows (pw.map fun q => mk q.1) (i + 1) with | some a, some b => some (a ++ b) | _, _ => none) = _
    rw [show tl (mk q.1) = q.1 from rfl, a1, a2]
theorem nl_num {n : Nat} (h : n < 17) : 10 ∉ numL n := by
  have key : ∀ n < 17, 10 ∉ numL n := by decide +kernel
  exact key n h
theorem nl_act {w : Nat} {a : Ac} (hw : w ≤ 16) (h : a.ok w) : 10 ∉ actL a := by
  cases a with
  | add r n => have h1 := nl_num (n := n) (by have := h.2; omega); simp [actL, regL, h1]; omega
  | copy r s => simp [actL, regL]; omega
  | swap r s => simp [actL, regL]; omega
  | emr r => simp [actL, regL]; omega
  | emn n => have h1 := nl_num (n := n) (by have : n < w := h; omega); simp [actL, h1]
theorem nl_put {p : Pu} (h : p.ok) : 10 ∉ putL p := by
  cases p with
  | num n => exact nl_num (by have : n ≤ 9 := h; omega)
  | reg r => simp [putL, regL]; omega
  | cho r m n =>
    have h1 := nl_num (n := m) (by have := h.2.1; omega)
    have h2 := nl_num (n := n) (by have := h.2.2; omega)
    simp [putL, regL, h1, h2]; omega
theorem nl_join {S : List Nat} (hS : 10 ∉ S) : ∀ {ps : List (List Nat)}, (∀ p ∈ ps, 10 ∉ p) → 10 ∉ joinL S ps
  | [], _ => by simp [joinL]
  | [p], h => h p (List.mem_cons_self ..)
  | p :: q :: r, h => by
    have h1 := h p (List.mem_cons_self ..)
    have h2 := nl_join hS (ps := q :: r) fun x hx => h x (List.mem_cons_of_mem _ hx)
    simp only [joinL, List.mem_append, not_or]
    exact ⟨h1, hS, h2⟩
theorem nl_card {w : Nat} {c : Cd} (hw : w ≤ 16) (h : c.ok w) : 10 ∉ cardL c := by
  have key : ∀ s ∈ namesA, 10 ∉ tl s := by decide +kernel
  have h1 := key _ h.nm
  have h2 := nl_join (S := [44, 32]) (by simp) (ps := c.ac.map actL) fun p hp => by
    obtain ⟨a, ha, rfl⟩ := List.mem_map.mp hp
    exact nl_act hw (h.ac a ha)
  have h3 := nl_put h.pu
  have h4 : 10 ∉ (if c.ac = [] then [] else [32] : List Nat) := by split <;> simp
  unfold cardL
  simp only [List.mem_append, not_or]
  exact ⟨⟨⟨⟨⟨⟨h1, by simp⟩, h2⟩, h4⟩, by simp⟩, h3⟩, by simp⟩
theorem actT_le (a : Ac) : (actT a).length ≤ 3 := by cases a <;> simp [actT]
theorem putT_le (a : Pu) : (putT a).length ≤ 5 := by cases a <;> simp [putT]
theorem actsT_le : ∀ as : List Ac, (actsT as).length ≤ 4 * as.length
  | [] => by simp [actsT]
  | [a] => by have := actT_le a; simp only [actsT, List.length_cons, List.length_nil]; omega
  | a :: b :: t => by
    have := actT_le a
    have h := actsT_le (b :: t)
    simp only [actsT, List.length_append, List.length_cons] at h ⊢
    omega
theorem cardT_le {w : Nat} {c : Cd} (h : c.ok w) : (cardT c).length ≤ 40 := by
  have h1 := actsT_le c.ac
  have h2 := putT_le c.pu
  have h3 := h.len
  simp only [cardT, List.length_cons, List.length_append, List.length_nil]
  omega
theorem flat_le {α : Type} (b : Nat) : ∀ l : List (List α), (∀ x ∈ l, x.length ≤ b) → l.flatten.length ≤ l.length * b
  | [], _ => by simp
  | x :: l, h => by
    have h1 := h x (List.mem_cons_self ..)
    have h2 := flat_le b l fun y hy => h y (List.mem_cons_of_mem _ hy)
    rw [List.flatten_cons, List.length_append, List.length_cons, Nat.add_mul, Nat.one_mul]
    omega
/-- the text of a deck reads as the deck's tokens -/
theorem deck_lex {D : Dk} (hD : D.ok) : ∃ ts, lexT (mk (deckL D)) = some ts ∧ At ts 0 (deckT D) ∧ ts.length ≤ 50000 ∧ (mk (deckL D)).length ≤ 50000 ∧ ∀ r ∈ Txt.split (mk (deckL D)) "\n", r.length ≤ 50000 := by
  have hhi := hD.hi
  have hle := hD.le
  have hsplit : Txt.split (mk (deckL D)) "\n" = ((([119, 114, 97, 112, 32] ++ numL D.w ++ [59]) :: D.cs.map cardL)).map mk := by
    refine split_rows (by simp) fun p hp => ?_
    rcases List.mem_cons.mp hp with rfl | hp
    · have := nl_num (n := D.w) (by omega)
      simp [this]
    · obtain ⟨c, hc, rfl⟩ := List.mem_map.mp hp
      exact nl_card hhi (hD.cs c hc)
  have hrl : ∀ p ∈ (([119, 114, 97, 112, 32] ++ numL D.w ++ [59]) :: D.cs.map cardL), p.length ≤ 300 := fun p hp => by
    rcases List.mem_cons.mp hp with rfl | hp
    · have := numL_le (n := D.w) (by omega)
      simp; omega
    · obtain ⟨c, hc, rfl⟩ := List.mem_map.mp hp
      exact cardL_le (by omega) (hD.cs c hc)
  obtain ⟨ts, h1, h2⟩ := lex_rows ((([119, 114, 97, 112, 32] ++ numL D.w ++ [59]), [w2 "wrap", ("number", num D.w), w2 ";"]) :: D.cs.map fun c => (cardL c, cardT c)) 0 fun q hq => by
    rcases List.mem_cons.mp hq with rfl | hq
    · exact lx_head hhi
    · obtain ⟨c, hc, rfl⟩ := List.mem_map.mp hq
      exact lx_card hhi (hD.cs c hc)
  have e1 : ((([119, 114, 97, 112, 32] ++ numL D.w ++ [59]), [w2 "wrap", ("number", num D.w), w2 ";"]) :: D.cs.map fun c => (cardL c, cardT c)).map (fun q => mk q.1) = ((([119, 114, 97, 112, 32] ++ numL D.w ++ [59]) :: D.cs.map cardL)).map mk := by
    rw [List.map_cons, List.map_map, List.map_cons, List.map_map]
    rfl
  have e2 : (((([119, 114, 97, 112, 32] ++ numL D.w ++ [59]), [w2 "wrap", ("number", num D.w), w2 ";"]) :: D.cs.map fun c => (cardL c, cardT c)).map (·.2)).flatten = [w2 "wrap", ("number", num D.w), w2 ";"] ++ (D.cs.map cardT).flatten := by
    rw [List.map_cons, List.map_map, List.flatten_cons]
    rfl
  rw [e1, ← hsplit] at h1
  rw [e2] at h2
  refine ⟨ts ++ [⟨"end", "", (Txt.split (mk (deckL D)) "\n").length, 0⟩], ?_, ⟨[], ?_⟩, ?_, ?_, ?_⟩
  · show (lexRows (Txt.split (mk (deckL D)) "\n") 0).map _ = _
    rw [h1]; rfl
  · rw [List.drop_zero, List.map_append, h2, List.append_nil, List.append_assoc]
    rfl
  · have h3 := congrArg List.length h2
    have h4 := flat_le 40 (D.cs.map cardT) fun x hx => by
      obtain ⟨c, hc, rfl⟩ := List.mem_map.mp hx
      exact cardT_le (hD.cs c hc)
    rw [List.length_map, List.length_append] at h3
    rw [List.length_map] at h4
    rw [List.length_append]
    simp only [List.length_cons, List.length_nil] at h3 ⊢
    omega
  · rw [mk_len]
    have := joinL_le [10] 300 _ hrl
    rw [List.length_cons, List.length_map] at this
    have h5 : (D.cs.length + 1) * (300 + [10].length) ≤ 9 * 301 := Nat.mul_le_mul (by omega) (by simp)
    unfold deckL
    omega
  · rw [hsplit]
    intro r hr
    obtain ⟨p, hp, rfl⟩ := List.mem_map.mp hr
    rw [mk_len]
    have := hrl p hp
    omega
end Dw
namespace L2
open PySem PySem.Spec PyProof.Rows GenW
open Sem (wp)
section
variable {M : Model} {A : Around} {R : GenEnd} {Y : Protocol} {n : Nat} {s₀ : Shared} {c : Code} {fs : List Frame} {s : Shared} {env : Env}
  {K : Flow → Sem PySem.Fin} {H : Value → Sem PySem.Fin} {gd : Bool → Bool} {lv : List Value → List Value}
theorem seg_For {target iter : Expr} {body : List Stmt} {pos : Pos} (hs : ∀ x, foldedSetIterable iter env x = pure x)
    (h : wpAny M (A.over c fs) (eval iter env) (fun x s1 => wpAny M (A.over c fs) (pyIter x) (fun it s2 => ∀ p, Seg M A R Y n s₀ (.forLoop target it body [] env) (M.den (.forLoop target it body [] env))
      (.ret (fun r => ((match r with | .ok f => (.pure f : Sem Flow) | .error e => .raise e).onRaise (cameBack env)).wrap K H gd lv) none (gd false) (lv []) c p [] :: fs) s2)
      (fun x s' => Seg M A R Y n s₀ c (H x) fs s') s1) (fun x s' => Seg M A R Y n s₀ c (H x) fs s') s) :
    Seg M A R Y n s₀ c ((exec (.For target iter body [] pos) env).wrap K H gd lv) fs s := by
  rw [exec_For]
  refine seg_bind_wrap (wpAny_standAt ?_)
  refine seg_bind_wrap (wpAny_mono h (fun x s1 h1 => ?_) fun _ _ q => q)
  refine seg_bind_wrap (wpAny_of_eq (hs x) ?_)
  refine seg_bind_wrap (wpAny_standAt ?_)
  refine seg_bind_wrap (wpAny_holding (wpAny_mono h1 (fun it s2 h2 => ?_) fun _ _ q => q))
  exact seg_call h2
end
section
variable {prog : Program} {w : World} {A : Around} {R : GenEnd} {Y : Protocol} {n : Nat} {s₀ : Shared} {fs : List Frame} {s : Shared} {env : Env}
theorem seg_forLoop {target : Expr} {body : List Stmt} {it : Value} {EX : Value → Shared → Prop}
    (hE : ∀ x s', EX x s' → Seg (model prog w) A R Y n s₀ (.forLoop target it body [] env) ((do noteFrame x env; theTreesLotGoes x : Sem Unit).wrap (fun _ => .raise x) .raise id id) fs s')
    (h : wpAny (model prog w) (A.over (.forLoop target it body [] env) fs) (pyNext it) (fun r s' => match r with
        | none => Seg (model prog w) A R Y n s₀ (.forLoop target it body [] env) (.pure (.again (.block [] env))) fs s'
        | some v => wpAny (model prog w) (A.over (.forLoop target it body [] env) fs) (letOwnedTupleGo target it v) (fun _ s1 => wpAny (model prog w) (A.over (.forLoop target it body [] env) fs) (assign target env v) (fun _ s2 =>
            Seg (model prog w) A R Y n s₀ (.forLoop target it body [] env) ((execs body env).wrap (fun f => match f with
              | .next | .cont => .pure (.again (.forLoop target it body [] env))
              | .brk => .pure (.done .next)
              | .ret v => .pure (.done (.ret v))) (fun e => (do noteFrame e env; theTreesLotGoes e : Sem Unit).wrap (fun _ => .raise e) .raise id id) id id) fs s2) EX s1) EX s') EX s) :
    Seg (model prog w) A R Y n s₀ (.forLoop target it body [] env) ((model prog w).den (.forLoop target it body [] env)) fs s := by
  show Seg _ A R Y n s₀ _ ((forTurn target it body [] env).onRaise (fun x => do noteFrame x env; theTreesLotGoes x)) fs s
  have hE' : ∀ x s', EX x s' → Seg (model prog w) A R Y n s₀ (.forLoop target it body [] env) ((do noteFrame x env; theTreesLotGoes x : Sem Unit).bind fun _ => .raise x) fs s' := fun x s' q => by
    rw [Sem.bind_eq_wrap]; exact hE x s' q
  rw [Sem.onRaise_eq_wrap]
  unfold forTurn
  refine seg_bind_wrap (wpAny_standAt ?_)
  refine seg_bind_wrap (wpAny_onRaise (wpAny_mono h (fun r s1 h1 => ?_) fun x s' q => wpAny_standAt (hE' x s' q)))
  cases r with
  | none => exact h1
  | some v =>
    refine seg_bind_wrap (wpAny_mono h1 (fun _ s2 h2 => ?_) fun x s' q => hE' x s' q)
    refine seg_bind_wrap (wpAny_mono h2 (fun _ s3 h3 => ?_) fun x s' q => hE' x s' q)
    rw [Sem.bind_eq_wrap', Sem.wrap_wrap]
    rw [Sem.wrap_congr (execs body env) _ _ (K' := fun f => match f with
            | .next | .cont => .pure (.again (.forLoop target it body [] env))
            | .brk => .pure (.done .next)
            | .ret v => .pure (.done (.ret v))) (H' := (fun e => (do noteFrame e env; theTreesLotGoes e : Sem Unit).wrap (fun _ => .raise e) .raise id id))
        (fun f => by cases f <;> rfl)
        (fun e => by first | exact Sem.bind_eq_wrap _ _ | (show (do noteFrame e env; theTreesLotGoes e : Sem Unit).bind (fun _ => .raise e) = _; rw [Sem.bind_eq_wrap]))]
    exact h3
theorem seg_block {fs : List Frame} (h : Seg (model prog w) A R Y n s₀ (.block [] env) (.pure (.done .next)) fs s) : Seg (model prog w) A R Y n s₀ (.block [] env) ((model prog w).den (.block [] env)) fs s := h
end
section
variable {X : Cx} {tg iter : Expr} {body : List Stmt} {pos : Pos} {wi : TI} {g : TG} {tb : TGn}
def tGFor (wi : TI) (g : TG) (tb : TGn) : TGn := fun D ys σ H => wi σ H fun J H1 => ∃ W : Nat → Nat → List V → L2.St → Hp → Prop, (∃ m, W 0 m ys σ H1) ∧ ∀ i m ys σ H, W i m ys σ H →
  (J.stop i H ∧ D.nx ys σ H) ∨ (J.go i H ∧ ∃ N : List V → L2.St → Hp → Prop, (∀ ys' σ' H', N ys' σ' H' → ∃ m', m' < m ∧ W (i + 1) m' ys' σ' H') ∧ ∀ x H', J.yld i H x H' → g x σ H' fun σ2 H2 => tb { D with nx := N, ct := N, bk := D.nx } ys σ2 H2)
theorem gs_for (hp : PassesOwn (model X.prog X.w) X.A X.env X.xe) (hc : X.calm = true) (hi : PI X tg iter wi) (hg : PG X tg g) (hb : GSs X body tb)
    (hs : ∀ x, foldedSetIterable iter X.env x = pure x := by intro _; rfl) : GS X (.For tg iter body [] pos) (tGFor wi g tb) := by
  refine ⟨fun A S ip R n ys s₀ c fs K J gd lv s σ H D gc hn k hI ht => ?_⟩
  obtain ⟨acc, cc, r, I⟩ := hI
  refine seg_For hs ?_
  rw [gc.over]
  refine wpAny_mono (hi.run _ s σ H _ I ht) (fun v s1 h1 => wpAny_mono h1 (fun itv s2 h2 => ?_) fun x s' hx => k.exc n s₀ x s' hx) fun x s' hx => k.exc n s₀ x s' hx
  obtain ⟨it, fp, tn, Jt, H2, e, I2, T, st2, f2, W, ⟨m0, w0⟩, turn⟩ := h2
  subst e
  intro p
  have gl := fun (kk : Result → Sem PySem.Fin) => gc_loop (k := kk) (c' := .forLoop tg (.ref it) body [] X.env) (l := lv []) (kp := []) (p := p) gc rfl rfl
  have stat : ∀ {acc' : Array Value} {cc' : Nat} {H' : Hp}, (∀ b ∈ fp, H' b = none) → ∀ b ∈ fp, FpOk X ((S, lstObj acc' cc') :: ip) H' b := fun {acc' cc' H'} hn b hb => by
    obtain ⟨_, a1, a2, a3, a4, a5⟩ := f2 b hb
    refine ⟨hn b hb, a1, a2, a3, a4, fun q hq => ?_⟩
    rcases List.mem_append.mp hq with z | z
    · exact a5 q (List.mem_append_left _ z)
    · rcases List.mem_cons.mp z with z | z
      · rw [z]
        exact a5 (S, lstObj acc cc) (List.mem_append_right _ List.mem_cons_self)
      · exact a5 q (List.mem_append_right _ (List.mem_cons_of_mem _ z))
  have fpS : ∀ b ∈ fp, b ≠ S := fun b hb z => (f2 b hb).2.2.2.2.2 (S, lstObj acc cc) (List.mem_append_right _ List.mem_cons_self) z.symm
  have loop : ∀ (m i n : Nat) (ys : List V) (s₀ s : Shared) (σ : L2.St) (H : Hp), n + ys.length = sizeLine → W i m ys σ H → GI X S ip ys σ H s → tn i s.heap → (∀ b ∈ fp, H b = none) →
      Seg (model X.prog X.w) A R (GY X S) n s₀ (.forLoop tg (.ref it) body [] X.env) ((model X.prog X.w).den (.forLoop tg (.ref it) body [] X.env))
        (.ret (fun r => ((match r with | .ok f => (.pure f : Sem Flow) | .error e => .raise e).onRaise (cameBack X.env)).wrap K J gd lv) none (gd false) (lv []) c p [] :: fs) s := by
    intro m
    induction m using Nat.strongRecOn with
    | ind m ih =>
      intro i n ys s₀ s σ H hn w hI st hfn
      have ee : ∀ (n : Nat) (s₀ : Shared) (x : Value) (s' : Shared), X.xe x s' → Seg (model X.prog X.w) A R (GY X S) n s₀ (.forLoop tg (.ref it) body [] X.env)
          ((do noteFrame x X.env; theTreesLotGoes x : Sem Unit).wrap (fun _ => .raise x) .raise id id)
          (.ret (fun r => ((match r with | .ok f => (.pure f : Sem Flow) | .error e => .raise e).onRaise (cameBack X.env)).wrap K J gd lv) none (gd false) (lv []) c p [] :: fs) s' := fun n s₀ x s' hx => by
        refine seg_wrap ?_
        rw [(gl _).over]
        refine wpAny_bind (wpAny_mono (hp x s' hx) (fun _ s'' hcb => wpAny_theTreesLotGoes ?_) fun y s'' hcb => ?_)
        · exact seg_leaf (.error x) (seg_cameBack gc k hcb)
        · exact seg_leaf (.error y) (seg_cameBack gc k hcb)
      refine seg_forLoop (EX := X.xe) (fun x s' hx => ee n s₀ x s' hx) ?_
      rw [(gl _).over]
      obtain ⟨acc, cc, r, I⟩ := hI
      rcases turn i m ys σ H w with ⟨stop, qn⟩ | ⟨go, N, hN, step⟩
      · refine thn (T.done X rfl rfl rfl hc i _ s σ H X.xe I (stat hfn) st stop) fun u s4 ⟨hr, I4⟩ => ?_
        subst hr
        exact seg_again rfl (seg_block (seg_leaf (.ok .next) (k.ok n ys s₀ s4 .next hn ⟨σ, H, ⟨acc, cc, r, I4⟩, qn⟩)))
      · refine thn (T.item X rfl rfl rfl hc i _ s σ H X.xe I (stat hfn) st go) fun ru s4 ⟨u, hr, h4⟩ => ?_
        subst hr
        refine thn h4 fun _ s5 ⟨x, H5, I5, r5, y5, st5, fr5⟩ => ?_
        have I5' : Inv X ((S, lstObj acc cc) :: (ip ++ pinsAt fp s5.heap)) σ H5 s5 := I5.pinned (stat fr5) (T.obj _ _ st5)
        refine thn (hg.run _ s5 σ H5 x u _ I5' r5 (step x H5 y5)) fun _ s6 ⟨σ6, H6, I6, q6⟩ => ?_
        have pfp : ∀ {q : Addr × Obj}, q ∈ pinsAt fp s5.heap → q.1 ∈ fp := fun hq => (of_pinsAt hq).1
        have back : ∀ {ys7 : List V} {σ7 : L2.St} {H7 : Hp} {s7 : Shared}, GI X S (ip ++ pinsAt fp s5.heap) ys7 σ7 H7 s7 → GI X S ip ys7 σ7 H7 s7 ∧ tn (i + 1) s7.heap ∧ ∀ b ∈ fp, H7 b = none := fun {ys7 σ7 H7 s7} hI => by
          obtain ⟨acc7, cc7, r7, I7⟩ := hI
          have mem : ∀ {q : Addr × Obj}, q ∈ pinsAt fp s5.heap → q ∈ X.pn ++ ((S, lstObj acc7 cc7) :: (ip ++ pinsAt fp s5.heap)) := fun {q} hq => List.mem_append_right _ (List.mem_cons_of_mem _ (List.mem_append_right _ hq))
          refine ⟨⟨acc7, cc7, r7, Inv.unpinned (pins := (S, lstObj acc7 cc7) :: ip) I7⟩, T.keep _ _ _ st5 fun b hb o e => (I7.pin (b, o) (mem (mem_pinsAt hb e))).1, fun b hb => ?_⟩
          obtain ⟨o, e, d⟩ := T.obj _ _ st5 b hb
          exact (I7.pin (b, o) (mem (mem_pinsAt hb e))).2.1
        have gc' := fun (kk : Result → Sem PySem.Fin) => (⟨(gl kk).pn, fun q hq => (List.mem_append.mp hq).elim ((gl kk).ip q) (fun z => fpS _ (pfp z)), (gl kk).apart, (gl kk).over, (gl kk).split, (gl kk).guard, rfl⟩ : GC X S (ip ++ pinsAt fp s5.heap) A (.forLoop tg (.ref it) body [] X.env) (.ret kk none (gd false) (lv []) c p [] :: fs) id)
        refine hb.run A S (ip ++ pinsAt fp s5.heap) R n ys s₀ _ _ _ _ id id s6 σ6 H6 { D with nx := N, ct := N, bk := D.nx } (gc' _) hn ⟨fun n' ys' s₀' s7 f hn' hs => ?_, fun n' s₀' x s7 hx => ee n' s₀' x s7 hx⟩ ⟨acc, cc, r, I6⟩ q6
        have again : ∀ {σ7 : L2.St} {H7 : Hp}, GI X S (ip ++ pinsAt fp s5.heap) ys' σ7 H7 s7 → N ys' σ7 H7 → Seg (model X.prog X.w) A R (GY X S) n' s₀' (.forLoop tg (.ref it) body [] X.env) ((model X.prog X.w).den (.forLoop tg (.ref it) body [] X.env)) (.ret (fun r => ((match r with | .ok f => (.pure f : Sem Flow) | .error e => .raise e).onRaise (cameBack X.env)).wrap K J gd lv) none (gd false) (lv []) c p [] :: fs) s7 := fun {σ7 H7} hI n7 => by
          obtain ⟨m', hm, w7⟩ := hN ys' σ7 H7 n7
          obtain ⟨g7, t7, f7⟩ := back hI
          exact ih m' hm (i + 1) n' ys' s₀' s7 σ7 H7 hn' w7 g7 t7 f7
        cases f with
        | next => obtain ⟨σ7, H7, I7, n7⟩ := hs; exact seg_again rfl (again I7 n7)
        | cont => obtain ⟨σ7, H7, I7, n7⟩ := hs; exact seg_again rfl (again I7 n7)
        | brk => obtain ⟨σ7, H7, I7, q7⟩ := hs; exact seg_leaf (.ok .next) (k.ok n' ys' s₀' s7 .next hn' ⟨σ7, H7, (back I7).1, q7⟩)
        | ret v => obtain ⟨x7, σ7, H7, I7, r7, q7⟩ := hs; exact seg_leaf (.ok (.ret v)) (k.ok n' ys' s₀' s7 (.ret v) hn' ⟨x7, σ7, H7, (back I7).1, r7, q7⟩)
  exact loop m0 0 n ys s₀ s2 σ H2 hn w0 ⟨acc, cc, r, I2⟩ st2 fun b hb => (f2 b hb).1
end
end L2
namespace L2
open PySem PySem.Spec PyProof.Rows GenW
section
variable {P : Program} {w : World} {K : PySem.W.Frag} {mg : Str → Option Value} {base : Heap}
theorem Fun.gok {x qual : Str} {st : Stmt} {f : Addr} {fd : FuncData} {N ps : List Str} {k : Nat} {sp : SpG} (F : Fun K x qual st f fd) (S : GScope N ps (defScope st)) (len : ∀ vs H Q E, sp vs H Q E → vs.length = ps.length)
    (hbody : ∀ (cdv : Value) (A : Around) (outer : List Env) (s : Shared) (H : Hp) (vs : List V) (Q : List V → Hp → Prop) (E : XK) (pn : List (Addr × Obj)), Room k (A.deeper (envOfC qual (defScope st) s.heap.objs.size f cdv)) → sp vs H Q E →
      ∃ t, GSs (gcxOf P w K mg base N qual (defScope st) f cdv A outer s H E pn) (defBody st) t ∧ t { nx := fun ys _ H' => Q ys H', rt := fun ys v H' => v = .non ∧ Q ys H' } [] (start N vs) H) : GFn P w K mg base (k + 1) f fd ps sp := by
  obtain ⟨oc, od, kV, doc, pm, an, cdv, ct, osl, rfl, lk, hcd⟩ := F.ex
  exact gfn_of lk hcd S len fun A outer s H vs Q E pn hr hsp => hbody cdv A outer s H vs Q E pn hr hsp
end
section
variable {X : Cx} {k n : Nat} {f : Addr} {fd : FuncData} {ps ks : List Str} {sp : SpG} {x : Str} {p pos : Pos} {e : Expr} {es : List Expr} {kws : List Keyword} {t tk : TA}
def tCallGN (n m : Nat) (sp : SpG) (E : XK) (t tk : TA) : TGen := fun σ H cont => t σ H fun vs H1 => tk σ H1 fun zs H2 => vs.length = n ∧ zs.length = m ∧ sp (vs ++ zs) H2 cont E
theorem run_gfnN {pins : List (Addr × Obj)} {σ : L2.St} {H : Hp} {s : Shared} {us ws : List Value} {vs zs : List V} {cont : List V → Hp → Prop} {E : XK} {E1 : Value → Shared → Prop} (F : GFn X.prog X.w X.K X.mg X.base k f fd ps sp) (hr : Room k X.A) (hb : KBn X.K fd ps n ks (fun us ws => us ++ ws) (fun us ws => us ++ ws))
    (I : Inv X pins σ H s) (r : Vals vs us) (rz : Vals zs ws) (l1 : vs.length = n) (l2 : zs.length = ks.length) (h : sp (vs ++ zs) H cont E) :
    wpAny (model X.prog X.w) X.A (call (.ref f) us (ks.zip ws)) (fun u s' => ∃ H1 sc ex, Inv X pins σ H1 sc ∧ ExOk X pins ex ∧ GMade X.prog X.w k X.stack H1 sc ex cont E u s') E1 s := by
  have r2 := hb.rel r rz
  refine wpAny_call (codeAny_mono (F.run X.A X.stack s H ⟨us, ks.zip ws⟩ (us ++ ws) (vs ++ zs) cont E hr I.env0 (hb.to s us ws I.kIn (r.length.symm.trans l1) (rz.length.symm.trans l2)) r2 h) fun r s' hq => ?_)
  cases r with
  | error e => exact False.elim hq
  | ok fl =>
    cases fl with
    | ret u => exact ⟨H, s, [], I, .nil, hq⟩
    | next => exact False.elim hq
    | brk => exact False.elim hq
    | cont => exact False.elim hq
theorem pgen_callN {E : XK} (F : GFn X.prog X.w X.K X.mg X.base k f fd ps sp) (hr : Room k X.A) (hg : Gl X x) (hm : X.mg x = some (.ref f)) (hk : PySem.W.keepIn X.K (.ref f) = true) (hb : KBn X.K fd ps n ks (fun us ws => us ++ ws) (fun us ws => us ++ ws))
    (ha : PA X (e :: es) t) (hkw : PK X kws tk) (hall : (backToKw pos (keywordEach kws X.env)).all (·.1.isSome) = true := by rfl) (hks : (backToKw pos (keywordEach kws X.env)).filterMap (·.1) = ks := by rfl)
    (hdb : (x == ("__debug__" : Str)) = false := by decide) (he : starEach (e :: es) X.env = (false, eval e X.env) :: starEach es X.env := by rfl)
    (hpl : ((backTo pos (starEach (e :: es) X.env)).any (·.1) || (backToKw pos (keywordEach kws X.env)).any (·.1.isNone)) = false := by rfl) :
    PGen X k (.Call (.Name x p) (e :: es) kws pos) (tCallGN n ks.length sp E t tk) E := by
  refine ⟨fun pins s σ H cont I h => ?_⟩
  refine wpAny_Call_Name_kw (ld_glob I hg hm ?_ hdb)
  refine PySem.W.callWith_KW (h₀ := X.base) I.ok.mod.kin hk hall (thn (ha.run pos pins s σ H _ I h) fun us s1 ⟨vs, H1, I1, r, q⟩ => ?_) hpl he
  refine thn (hkw.run pos pins s1 σ H1 _ I1 q) fun ws s2 ⟨zs, H2, I2, rz, l1, l2, q2⟩ => ⟨I2.kIn, ?_⟩
  rw [hks]
  exact run_gfnN F hr hb I2 r rz l1 l2 q2
theorem passG0 {X : Cx} : Passes (CX X.prog X.w) X E0 := fun _ _ _ _ _ _ _ h => by
  obtain ⟨_, _, _, _, _, _, _, _, _, _, _, _, z⟩ := h
  exact z.elim
theorem noStop0 {K : PySem.W.Frag} : NoStop K E0 := fun _ _ _ h => h.elim
end
end L2
namespace Dw
open PySem L2 TL
structure CalG (P : Program) (w : World) (K : PySem.W.Frag) (mg : Str → Option Value) (base : Heap) (k : Nat) (x : Str) (ps : List Str) (n : Nat) (ks : List Str) (sp : SpG) : Prop where
  ex : ∃ f fd, GFn P w K mg base k f fd ps sp ∧ mg x = some (.ref f) ∧ PySem.W.keepIn K (.ref f) = true ∧ KBn K fd ps n ks (fun us ws => us ++ ws) (fun us ws => us ++ ws) ∧ ∃ ds, Vals (List.replicate ks.length V.non) ds ∧ Binds K fd ps ds
section
variable {P : Program} {w : World} {K : PySem.W.Frag} {mg : Str → Option Value} {base : Heap} {k n : Nat} {x qual : Str} {st : Stmt} {N ps ks : List Str} {sp : SpG}
theorem DefKT.calG (D : DefKT K mg x qual st ps n ks) (h : ∀ f fd, Fun K x qual st f fd → GFn P w K mg base k f fd ps sp) : CalG P w K mg base k x ps n ks sp := by
  obtain ⟨f, fd, F, hm, hb, hd⟩ := D.ex
  exact ⟨f, fd, h f fd F, hm, F.kp, hb, hd⟩
end
section
variable {X : Cx} {k n : Nat} {x nm : Str} {ps ks : List Str} {sp : SpG} {p p2 pos pos2 : Pos} {e : Expr} {es : List Expr} {kws : List Keyword} {t tk : TA}
/-- list(f(e, .., k = v, ..)) of a generator def -/
theorem pe_listN (c : CalG X.prog X.w X.K X.mg X.base k x ps n ks sp) (hr : Room (k + 3) X.A) (hg : Gl X x) (hgl : Gl X "list") (hl : X.mg "list" = none) (ha : PA X (e :: es) t) (hkw : PK X kws tk) (hall : (backToKw pos (keywordEach kws X.env)).all (·.1.isSome) = true := by rfl) (hks : (backToKw pos (keywordEach kws X.env)).filterMap (·.1) = ks := by rfl)
    (hdb : (x == ("__debug__" : Str)) = false := by decide) (he : starEach (e :: es) X.env = (false, eval e X.env) :: starEach es X.env := by rfl)
    (hpl : ((backTo pos (starEach (e :: es) X.env)).any (·.1) || (backToKw pos (keywordEach kws X.env)).any (·.1.isNone)) = false := by rfl)
    (he2 : starEach [Expr.Call (.Name x p) (e :: es) kws pos] X.env = (false, eval (.Call (.Name x p) (e :: es) kws pos) X.env) :: starEach [] X.env := by rfl) :
    PE X (.Call (.Name "list" p2) [.Call (.Name x p) (e :: es) kws pos] [] pos2) (tListG (tCallGN n ks.length sp E0 t tk)) := by
  obtain ⟨f, fd, F, hm, hk, hb, _⟩ := c.ex
  exact pe_listG (nm := "list") (pgen_callN F (hr.mono (by omega)) hg hm hk hb ha hkw hall hks hdb he hpl) passG0 noStop0 hr hgl hl (by decide +kernel) (by decide) (by decide) he2
/-- list(f(e, ..)) of a generator def, no keyword given -/
theorem pe_listD (c : CalG X.prog X.w X.K X.mg X.base k x ps n ks sp) (hr : Room (k + 3) X.A) (hg : Gl X x) (hgl : Gl X "list") (hl : X.mg "list" = none) (ha : PA X (e :: es) t)
    (hdb : (x == ("__debug__" : Str)) = false := by decide) (he : starEach (e :: es) X.env = (false, eval e X.env) :: starEach es X.env := by rfl)
    (hpl : (backTo pos (starEach es X.env)).any (·.1) = false := by rfl)
    (he2 : starEach [Expr.Call (.Name x p) (e :: es) [] pos] X.env = (false, eval (.Call (.Name x p) (e :: es) [] pos) X.env) :: starEach [] X.env := by rfl) :
    PE X (.Call (.Name "list" p2) [.Call (.Name x p) (e :: es) [] pos] [] pos2) (tListG (tCallG sp (List.replicate ks.length V.non) E0 t)) := by
  obtain ⟨f, fd, F, hm, hk, _, ds, hd, hb⟩ := c.ex
  exact pe_listG (nm := "list") (pgen_call F (hr.mono (by omega)) hg hm hk hb hd ha hdb he hpl) passG0 noStop0 hr hgl hl (by decide +kernel) (by decide) (by decide) he2
end
/-! ### a generator's statements by data -/
structure PoG where
  n : List Dv → Ga → Mu → Prop
  c : List Dv → Ga → Mu → Prop := fun _ _ _ => False
def WpY (K : PySem.W.Frag) (Pm F : List Addr) (t : TGn) (yd : List Dv) (Γ : Ga) (M : Mu) (P : PoG) : Prop :=
  ∀ (H0 : Hp) (σ : L2.St) (H : Hp) (D : GEnds) (ys : List V), Stt K Pm F M H0 H σ Γ → RpL K (hid (ads M ++ F) H) ys yd →
    (∀ ys' σ' H' yd' Γ' M', P.n yd' Γ' M' → Stt K Pm F M' H0 H' σ' Γ' → Kp F M H M' H' → RpL K (hid (ads M' ++ F) H') ys' yd' → D.nx ys' σ' H') →
    (∀ ys' σ' H' yd' Γ' M', P.c yd' Γ' M' → Stt K Pm F M' H0 H' σ' Γ' → Kp F M H M' H' → RpL K (hid (ads M' ++ F) H') ys' yd' → D.ct ys' σ' H') → t D ys σ H
section
variable {K : PySem.W.Frag} {Pm F : List Addr} {M : Mu} {Γ : Ga} {yd : List Dv} {P : PoG}
theorem wy_plain {t : TS} (h : WpS K Pm F t Γ M { n := P.n yd, r := fun _ _ => False, c := P.c yd }) : WpY K Pm F (tPlain t) yd Γ M P := fun H0 σ H D ys S r n c =>
  h H0 σ H (D.at ys) S (fun σ' H' Γ' M' q S' k' => n ys σ' H' yd Γ' M' q S' k' (r.mono k')) (fun _ _ _ _ _ _ q => q.elim) (fun _ _ _ _ q => q.elim) (fun σ' H' Γ' M' q S' k' => c ys σ' H' yd Γ' M' q S' k' (r.mono k'))
theorem wy_then {t u : TGn} (h : WpY K Pm F t yd Γ M { P with n := fun yd' Γ' M' => WpY K Pm F u yd' Γ' M' P }) : WpY K Pm F (tGThen t u) yd Γ M P := fun H0 σ H D ys S r n c =>
  h H0 σ H { D with nx := fun ys' σ' H' => u D ys' σ' H' } ys S r (fun ys' σ' H' yd' Γ' M' q S' k' r' => q H0 σ' H' D ys' S' r' (fun ys2 σ2 H2 yd2 Γ2 M2 q2 S2 k2 r2 => n ys2 σ2 H2 yd2 Γ2 M2 q2 S2 (k'.trans k2) r2) (fun ys2 σ2 H2 yd2 Γ2 M2 q2 S2 k2 r2 => c ys2 σ2 H2 yd2 Γ2 M2 q2 S2 (k'.trans k2) r2)) c
theorem wy_nil (k : P.n yd Γ M) : WpY K Pm F tG0 yd Γ M P := fun H0 σ H D ys S r n c => n ys σ H yd Γ M k S (Same.refl _) r
theorem wy_yield {te : TE} (hz : yd.length < 100000) (h : WpX K Pm F te Γ M fun d M' => P.n (yd ++ [d]) Γ M') : WpY K Pm F (tGYield te) yd Γ M P := fun H0 σ H D ys S r n c =>
  ⟨sz_lt (by rw [r.len]; exact hz), h H0 σ H S _ fun v H' d M' q S' k' r' => n _ σ H' _ Γ M' q S' k' ((r.mono k').app (.cons r' .nil))⟩
theorem for_rangeG {lo : Int} {n : Nat} {g : TG} {tb : TGn} {D : GEnds} {ys : List V} {σ : L2.St} {H : Hp} (Pv : Nat → List V → L2.St → Hp → Prop) (h0 : Pv 0 ys σ H)
    (hs : ∀ i ys σ H, i < n → Pv i ys σ H → g (.int (lo + i)) σ H fun σ2 H2 => tb { D with nx := Pv (i + 1), ct := Pv (i + 1), bk := D.nx } ys σ2 H2) (hd : ∀ ys σ H, Pv n ys σ H → D.nx ys σ H) :
    ∃ W : Nat → Nat → List V → L2.St → Hp → Prop, (∃ m, W 0 m ys σ H) ∧ ∀ i m ys σ H, W i m ys σ H →
      ((Itr lo n).stop i H ∧ D.nx ys σ H) ∨ ((Itr lo n).go i H ∧ ∃ N : List V → L2.St → Hp → Prop, (∀ ys' σ' H', N ys' σ' H' → ∃ m', m' < m ∧ W (i + 1) m' ys' σ' H') ∧ ∀ x H', (Itr lo n).yld i H x H' → g x σ H' fun σ2 H2 => tb { D with nx := N, ct := N, bk := D.nx } ys σ2 H2) := by
  refine ⟨fun i m ys σ H => m = n - i ∧ i ≤ n ∧ Pv i ys σ H, ⟨n, by simp, Nat.zero_le _, h0⟩, ?_⟩
  rintro i m ys σ H ⟨rfl, hi, p⟩
  by_cases hlt : i < n
  · refine .inr ⟨hlt, Pv (i + 1), fun ys' σ' H' p' => ⟨n - (i + 1), by omega, rfl, hlt, p'⟩, fun x H' y => ?_⟩
    obtain ⟨e, y⟩ := y
    subst e
    subst y
    exact hs i ys σ _ hlt p
  · have e : i = n := by omega
    subst e
    exact .inl ⟨Nat.le_refl _, hd ys σ H p⟩
theorem wy_forR {g : TG} {tA : TA} {ts : TGn} (h : WpA K Pm F tA Γ M fun ds M1 => ∃ k : Int, ds = [.int k] ∧ k ≤ 100000 ∧ -100000 ≤ k ∧ ∃ I : Nat → List Dv → Ga → Mu → Prop, I 0 yd Γ M1 ∧
      (∀ (i : Nat) yd' Γ' M', (i : Int) < k → I i yd' Γ' M' → ∃ Γ'', TgD K g (.int i) Γ' Γ'' ∧ WpY K Pm F ts yd' Γ'' M' { n := I (i + 1), c := I (i + 1) }) ∧
      ∀ yd' Γ' M', I k.toNat yd' Γ' M' → P.n yd' Γ' M') : WpY K Pm F (tGFor (iRng1 tA) g ts) yd Γ M P := fun H0 σ H D ys S r n c =>
  h H0 σ H S _ fun vs H1 ds M1 ⟨k, hd, hz, hz', I, h0, ht, he⟩ S1 k1 r1 => by
    subst hd
    cases r1 with
    | cons r1 r2 =>
    cases r2
    cases r1
    refine ⟨k, rfl, by omega, by omega, for_rangeG (lo := 0) (n := k.toNat) (fun i ys' σ' H' => ∃ yd', Wd K Pm F M1 H0 H1 (fun Γ' M' => I i yd' Γ' M' ∧ RpL K (hid (ads M' ++ F) H') ys' yd') σ' H') ⟨yd, Γ, M1, ⟨h0, r.mono k1⟩, S1, Same.refl _⟩ (fun i ys' σ' H' hx p => ?_) fun ys' σ' H' p => ?_⟩
    · obtain ⟨yd', Γ', M', ⟨hI, rI⟩, S', k'⟩ := p
      obtain ⟨Γ'', tg, hb⟩ := ht i yd' Γ' M' (by omega) hI
      have e0 : (0 : Int) + (i : Int) = (i : Int) := Int.zero_add _
      rw [e0]
      refine tg _ σ' H' _ S'.s (.int _) _ fun σ2 s2 => ?_
      exact hb H0 σ2 H' _ ys' ⟨S'.fr, S'.loc, S'.ms, s2⟩ rI (fun ys3 σ3 H3 yd3 Γ3 M3 q3 S3 k3 r3 => ⟨yd3, Γ3, M3, ⟨q3, r3⟩, S3, k'.trans k3⟩) (fun ys3 σ3 H3 yd3 Γ3 M3 q3 S3 k3 r3 => ⟨yd3, Γ3, M3, ⟨q3, r3⟩, S3, k'.trans k3⟩)
    · obtain ⟨yd', Γ', M', ⟨hI, rI⟩, S', k'⟩ := p
      exact n ys' σ' H' yd' Γ' M' (he yd' Γ' M' hI) S' (k1.trans k') rI
/-! ### a generator def's promise by data -/
abbrev DSG := List Dv → Mu → (List Dv → Mu → Prop) → Prop
def spDG (K : PySem.W.Frag) (n : Nat) (S : DSG) : SpG := fun vs H Q _ => ∃ (F : List Addr) (M : Mu) (ds : List Dv) (R : List Dv → Mu → Prop), vs.length = n ∧ Ms K F M H ∧ RpL K (hid (ads M ++ F) H) vs ds ∧ S ds M R ∧
  ∀ ys H' yd N M', R yd (N ++ M') → ads M' = ads M → (∀ q ∈ N, H q.1 = none) → (∀ a o, a ∉ ads M → H a = some o → H' a = some o) → Ms K F (N ++ M') H' → RpL K (hid (ads (N ++ M') ++ F) H') ys yd → Q ys H'
theorem spDG_len {n : Nat} {S : DSG} {vs : List V} {H : Hp} {Q : List V → Hp → Prop} {E : XK} (h : spDG K n S vs H Q E) : vs.length = n := by
  obtain ⟨_, _, _, _, e, _⟩ := h
  exact e
theorem bodyG {H : Hp} {t : TGn} {N : List Str} {n : Nat} {S : DSG} {vs : List V} {Q : List V → Hp → Prop} {E : XK} (h : spDG K n S vs H Q E) (hN : n ≤ N.length)
    (k : ∀ F M ds R, S ds M R → ds.length = n → WpY K (ads M) F t [] (gs N ds) M { n := fun yd _ M' => ∃ N M2, M' = N ++ M2 ∧ ads M2 = ads M ∧ R yd M' }) :
    t { nx := fun ys _ H' => Q ys H', rt := fun ys v H' => v = .non ∧ Q ys H' } [] (L2.start N vs) H := by
  obtain ⟨F, M, ds, R, e, hm, r, hs, q⟩ := h
  have st : Stt K (ads M) F M H H (L2.start N vs) (gs N ds) := ⟨fun _ _ _ h => h, fun p hp => .inl (List.mem_map.mpr ⟨p, hp, rfl⟩), hm, start_sl r (by omega)⟩
  have new : ∀ {N M2 : Mu} {H' : Hp} {σ' : L2.St} {Γ' : Ga}, ads M2 = ads M → Stt K (ads M) F (N ++ M2) H H' σ' Γ' → ∀ q ∈ N, H q.1 = none := fun {N M2 H' σ' Γ'} ea S' q hq => by
    rcases S'.loc q (List.mem_append_left _ hq) with z | z
    · have nd := S'.ms.nd
      rw [show ads (N ++ M2) = ads N ++ ads M2 from List.map_append ..] at nd
      exact absurd rfl ((List.nodup_append.mp nd).2.2 q.1 (List.mem_map.mpr ⟨q, hq, rfl⟩) q.1 (by rw [ea]; exact z))
    · exact z
  refine k F M ds R hs (by rw [← r.len]; exact e) H _ H _ [] st .nil (fun ys' σ' H' yd' Γ' M' ⟨N, M2, e1, ea, hR⟩ S' k' r' => ?_) (fun _ _ _ _ _ _ z => z.elim)
  subst e1
  exact q ys' H' yd' N M2 hR ea (new ea S') S'.fr S'.ms r'
/-- list(f(..)): no mutable object is handed over; the list is new, and mutable -/
theorem wx_listN {n m k : Nat} {S : DSG} {t tk : TA} {E : XK} {R : Dv → Mu → Prop} (hk : n + m = k) (h : WpA K Pm F t Γ M fun ds M' => WpA K Pm F tk Γ M' fun es M2 => ds.length = n ∧ es.length = m ∧ S (ds ++ es) [] fun yd N => ∀ p, p ∉ ads (N ++ M2) ++ F → R (.adr p) ((p, .lst yd) :: (N ++ M2))) :
    WpX K Pm F (tListG (tCallGN n m (spDG K k S) E t tk)) Γ M R := fun H0 σ H S0 Q q =>
  h H0 σ H S0 _ fun vs H1 ds M1 h1 S1 k1 r1 => h1 H0 σ H1 S1 _ fun zs H2 es M2 ⟨hn, hm, hs⟩ S2 k2 r2 => by
    have r := (r1.mono k2).app r2
    refine ⟨by rw [r1.len]; exact hn, by rw [r2.len]; exact hm, ads M2 ++ F, [], ds ++ es, _, ?_, ⟨fun q hq => (nomatch hq), List.nodup_nil, fun a ha => ?_, fun a _ hm => (nomatch hm)⟩, ?_, hs, fun ys H3 yd N M3 hR ha hn hf hm r3 p hp => ?_⟩
    · show (vs ++ zs).length = k
      rw [List.length_append, r1.len, r2.len, hn, hm]; exact hk
    · rcases List.mem_append.mp ha with z | z
      · obtain ⟨q', hq, e⟩ := List.mem_map.mp z
        rw [← e]
        exact (S2.ms.ok q' hq).there
      · exact S2.ms.ff a z
    · exact r
    · have e : Same H2 H3 := fun a o => hf a o (fun z => nomatch z)
      have e0 : M3 = [] := List.map_eq_nil_iff.mp ha
      subst e0
      rw [List.append_nil] at hR hm r3
      obtain ⟨S3, k3⟩ := S2.join e hn hm
      have e2 : ads (N ++ M2) ++ F = ads N ++ (ads M2 ++ F) := by simp only [ads, List.map_append, List.append_assoc]
      rw [← e2] at r3
      obtain ⟨S4, k4⟩ := S3.newM (ds := yd) (xs := ys) hp (same_new (o := .lst ys) hp) upd_same (r3.mono (hid_new hp))
      exact q _ _ _ _ (hR p (S3.ms.fresh hp)) S4 (((k1.trans k2).trans k3).trans k4) (.adr p)
theorem wx_listD {n m k : Nat} {S : DSG} {t : TA} {E : XK} {R : Dv → Mu → Prop} (hk : n + m = k) (h : WpA K Pm F t Γ M fun ds M2 => ds.length = n ∧ S (ds ++ List.replicate m .non) [] fun yd N => ∀ p, p ∉ ads (N ++ M2) ++ F → R (.adr p) ((p, .lst yd) :: (N ++ M2))) :
    WpX K Pm F (tListG (tCallG (spDG K k S) (List.replicate m V.non) E t)) Γ M R := fun H0 σ H S0 Q q =>
  h H0 σ H S0 _ fun vs H2 ds M2 ⟨hn, hs⟩ S2 k1 r1 => by
    refine ⟨ads M2 ++ F, [], ds ++ List.replicate m .non, _, ?_, ⟨fun q hq => (nomatch hq), List.nodup_nil, fun a ha => ?_, fun a _ hm => (nomatch hm)⟩, ?_, hs, fun ys H3 yd N M3 hR ha hn hf hm r3 p hp => ?_⟩
    · rw [List.length_append, r1.len, hn, List.length_replicate]; exact hk
    · rcases List.mem_append.mp ha with z | z
      · obtain ⟨q', hq, e⟩ := List.mem_map.mp z
        rw [← e]
        exact (S2.ms.ok q' hq).there
      · exact S2.ms.ff a z
    · exact r1.app (rpl_non _ m)
    · have e : Same H2 H3 := fun a o => hf a o (fun z => nomatch z)
      have e0 : M3 = [] := List.map_eq_nil_iff.mp ha
      subst e0
      rw [List.append_nil] at hR hm r3
      obtain ⟨S3, k3⟩ := S2.join e hn hm
      have e2 : ads (N ++ M2) ++ F = ads N ++ (ads M2 ++ F) := by simp only [ads, List.map_append, List.append_assoc]
      rw [← e2] at r3
      obtain ⟨S4, k4⟩ := S3.newM (ds := yd) (xs := ys) hp (same_new (o := .lst ys) hp) upd_same (r3.mono (hid_new hp))
      exact q _ _ _ _ (hR p (S3.ms.fresh hp)) S4 ((k1.trans k3).trans k4) (.adr p)
end
end Dw
namespace Dw
open PySem L2 TL
def S_check_state (a : Ads) : DS := fun ds M R => ∃ (D : Dk) (o : List Cd) (v : List Nat), ds = [pD a D, stD o v] ∧ M = [] ∧ D.ok ∧ o.Perm D.cs ∧ v.length = 4 ∧ (∀ x ∈ v, x < D.w) ∧ R .non []
def nm0 (s : List Cd × List Nat) : Str := match s.1 with
  | [] => ""
  | c :: _ => c.nm
/-- the first n steps, as they are told: newest list first -/
inductive TrR (w : Nat) (s : List Cd × List Nat) : Nat → List Dv → Mu → Prop
  | nil : TrR w s 0 [] []
  | snoc {n : Nat} {yd : List Dv} {M : Mu} (q : Addr) : TrR w s n yd M → TrR w s (n + 1) (yd ++ [.tup [.str (nm0 (itS w n s)), .adr q, iN (stepO w (itS w n s)).2.2]]) ((q, .lst ((stepO w (itS w n s)).2.1.map iN)) :: M)
def S_trace (a : Ads) : DSG := fun ds M R => ∃ (x : Str) (D : Dk) (ts : List Tk) (n : Nat) (b : Option (List Cd × List Nat)), ds = [.str x, iN n, oSt b] ∧ M = [] ∧ D.ok ∧ x.length ≤ 50000 ∧ (∀ r ∈ Txt.split x "\n", r.length ≤ 50000) ∧ lexT x = some ts ∧ ts.length ≤ 50000 ∧ At ts 0 (deckT D) ∧ n ≤ 500 ∧
  (∀ o v, b = some (o, v) → o.Perm D.cs ∧ v.length = 4 ∧ ∀ x ∈ v, x < D.w) ∧ ∀ yd N, TrR D.w (frSt D b) n yd N → R yd N
end Dw
namespace Dw
open PySem L2 TL
section
variable {K : PySem.W.Frag} {Pm F : List Addr} {M : Mu} {Γ : Ga} {P : Po} {ts : TS}
theorem ws_drp {q : Addr × Mv} (h : WpS K Pm F ts Γ M P) : WpS K Pm F ts Γ (q :: M) P := fun H0 σ H D S n r b c => by
  obtain ⟨S2, k2⟩ := S.drp
  exact h H0 σ H D S2 (fun σ' H' Γ' M' z S' k' => n σ' H' Γ' M' z S' (k2.trans k')) (fun v σ' H' Γ' d M' z S' k' => r v σ' H' Γ' d M' z S' (k2.trans k'))
    (fun σ' H' Γ' M' z S' k' => b σ' H' Γ' M' z S' (k2.trans k')) (fun σ' H' Γ' M' z S' k' => c σ' H' Γ' M' z S' (k2.trans k'))
theorem ws_drps (h : WpS K Pm F ts Γ M P) : ∀ A : Mu, WpS K Pm F ts Γ (A ++ M) P
  | [] => h
  | _ :: A => ws_drp (ws_drps h A)
theorem Stt.drps {H0 H : Hp} {σ : L2.St} : ∀ A : Mu, Stt K Pm F (A ++ M) H0 H σ Γ → Stt K Pm F M H0 H σ Γ ∧ Kp F (A ++ M) H M H
  | [], S => ⟨S, Same.refl _⟩
  | _ :: A, S => by
    obtain ⟨S1, k1⟩ := S.drp
    obtain ⟨S2, k2⟩ := Stt.drps A S1
    exact ⟨S2, k1.trans k2⟩
/-- what is mutable is forgotten behind a statement -/
theorem ws_less (h : WpS K Pm F ts Γ M { P with n := fun Γ' M' => ∃ A M2, M' = A ++ M2 ∧ P.n Γ' M2 }) : WpS K Pm F ts Γ M P := fun H0 σ H D S n r b c =>
  h H0 σ H D S (fun σ' H' Γ' M' ⟨A, M2, e, z⟩ S' k' => by
    subst e
    obtain ⟨S2, k2⟩ := S'.drps A
    exact n σ' H' Γ' M2 z S2 (k'.trans k2)) r b c
/-- the next statement does nothing but what the words say -/
theorem ws_nextD {A : Mu} (k : P.n Γ M) : WpS K Pm F tNext Γ (A ++ M) P := ws_drps (ws_next k) A
end
theorem runV_em (w : Nat) (acs : List Ac) (v : List Nat) : (runV w acs v).2.length ≤ acs.length := by
  have : ∀ (acs : List Ac) (p : List Nat × List Nat), (acs.foldl (fun p c => (actV w p.1 c, p.2 ++ emV p.1 c)) p).2.length ≤ p.2.length + acs.length := fun acs => by
    induction acs with
    | nil => intro p; exact Nat.le_refl _
    | cons c acs ih =>
      intro p
      have h1 := ih (actV w p.1 c, p.2 ++ emV p.1 c)
      have h2 := emV_len p.1 c
      rw [List.length_append] at h1
      rw [List.foldl_cons, List.length_cons]
      omega
  have h := this acs (v, [])
  rw [List.length_nil, Nat.zero_add] at h
  exact h
theorem step_em {D : Dk} {s : List Cd × List Nat} (hD : D.ok) (h : StOk D s) : (stepO D.w s).2.1.length ≤ 6 := by
  obtain ⟨c, r, v, rfl, hc, _, _⟩ := h.cons hD
  have h1 := runV_em D.w c.ac v
  have h2 := (hD.cs c hc).len
  show (runV D.w c.ac v).2.length ≤ 6
  omega
/-- what the law expects of the first n steps -/
def trE (w : Nat) (s : List Cd × List Nat) : Nat → List Dv
  | 0 => []
  | n + 1 => trE w s n ++ [.tup [.str (nm0 (itS w n s)), .lst ((stepO w (itS w n s)).2.1.map iN), iN (stepO w (itS w n s)).2.2]]
theorem trE_len (w : Nat) (s : List Cd × List Nat) : ∀ n, (trE w s n).length = n
  | 0 => rfl
  | n + 1 => by
    show (trE w s n ++ [_]).length = n + 1
    rw [List.length_append, trE_len w s n]; rfl
theorem TrR.len {w : Nat} {s : List Cd × List Nat} {n : Nat} {yd : List Dv} {M : Mu} (h : TrR w s n yd M) : yd.length = n := by
  induction h with
  | nil => rfl
  | snoc q _ ih => rw [List.length_append, ih]; rfl
theorem TrR.at {w : Nat} {s : List Cd × List Nat} {n : Nat} {yd : List Dv} {M : Mu} (h : TrR w s n yd M) : ∀ i, i < n → ∃ (q : Addr) (j : Nat), yd[i]? = some (.tup [.str (nm0 (itS w i s)), .adr q, iN (stepO w (itS w i s)).2.2]) ∧ M[j]? = some (q, .lst ((stepO w (itS w i s)).2.1.map iN)) ∧
    (trE w s n)[i]? = some (.tup [.str (nm0 (itS w i s)), .lst ((stepO w (itS w i s)).2.1.map iN), iN (stepO w (itS w i s)).2.2]) := by
  induction h with
  | nil => intro i hi; omega
  | @snoc n yd M q h ih =>
    intro i hi
    by_cases e : i = n
    · subst e
      refine ⟨q, 0, ?_, rfl, ?_⟩
      · rw [List.getElem?_append_right (by rw [h.len]; exact Nat.le_refl _), h.len, Nat.sub_self]; rfl
      · show (trE w s i ++ [_])[i]? = _
        rw [List.getElem?_append_right (by rw [trE_len]; exact Nat.le_refl _), trE_len, Nat.sub_self]; rfl
    · obtain ⟨p, j, h1, h2, h3⟩ := ih i (by omega)
      refine ⟨p, j + 1, ?_, h2, ?_⟩
      · rw [List.getElem?_append_left (by rw [h.len]; omega)]; exact h1
      · show (trE w s n ++ [_])[i]? = _
        rw [List.getElem?_append_left (by rw [trE_len]; omega)]; exact h3
/-- the i-th of a short list, case by case -/
theorem eqd_ints {M : Mu} {n : Nat} (v : List Nat) : ∀ (i : Nat) x d, (v.map iN)[i]? = some x → (v.map iN)[i]? = some d → Eqd M n x d := fun i x d hx hd => by
  rw [hx] at hd
  cases hd
  obtain ⟨k, _, rfl⟩ := List.mem_map.mp (List.mem_of_getElem? hx)
  exact .int _
theorem eqd_strs {M : Mu} {n : Nat} (o : List Cd) : ∀ (i : Nat) x d, (o.map nmD)[i]? = some x → (o.map nmD)[i]? = some d → Eqd M n x d := fun i x d hx hd => by
  rw [hx] at hd
  cases hd
  obtain ⟨k, _, rfl⟩ := List.mem_map.mp (List.mem_of_getElem? hx)
  exact .str _
theorem eqd_st {M : Mu} {n : Nat} {o : List Cd} {v : List Nat} (ho : o.length ≤ 1000) (hv : v.length ≤ 1000) : Eqd M (n + 2) (stD o v) (stD o v) := by
  refine .tup rfl (Nat.le_of_ble_eq_true rfl) fun i x d hx hd => ?_
  rw [hx] at hd
  cases hd
  rcases two_of hx with rfl | rfl
  · exact .tup rfl (by rw [List.length_map]; exact ho) (eqd_strs o)
  · exact .tup rfl (by rw [List.length_map]; exact hv) (eqd_ints v)
theorem TrR.eqd {D : Dk} {s : List Cd × List Nat} {n : Nat} {yd : List Dv} {N M : Mu} {p : Addr} (hD : D.ok) (hs : StOk D s) (hn : n ≤ 1000) (h : TrR D.w s n yd N) : Eqd ((p, .lst yd) :: (N ++ M)) 5 (.adr p) (.lst (trE D.w s n)) := by
  refine .adr (j := 0) (xs := yd) rfl (by rw [h.len, trE_len]) (by rw [trE_len]; exact hn) fun i x d hx hd => ?_
  have hi : i < n := by have := (List.getElem?_eq_some_iff.mp hx).1; rw [h.len] at this; exact this
  obtain ⟨q, j, h1, h2, h3⟩ := h.at i hi
  rw [h1] at hx
  rw [h3] at hd
  cases hx
  cases hd
  have hem := step_em hD (hs.its i)
  have hj : (((p, Mv.lst yd) :: (N ++ M)) : Mu)[j + 1]? = some (q, .lst ((stepO D.w (itS D.w i s)).2.1.map iN)) := by
    rw [List.getElem?_cons_succ, List.getElem?_append_left (List.getElem?_eq_some_iff.mp h2).1]
    exact h2
  refine .tup rfl (Nat.le_of_ble_eq_true rfl) fun m x d hx hd => ?_
  match m, hx, hd with
  | 0, hx, hd => cases hx; cases hd; exact .str _
  | 1, hx, hd => cases hx; cases hd; exact .adr hj rfl (by rw [List.length_map]; omega) (eqd_ints _)
  | 2, hx, hd => cases hx; cases hd; exact .int _
/-- lists that have grown by m at most -/
def LstB (m : Nat) (N N' : Mu) : Prop := ∀ (j : Nat) q es, N[j]? = some (q, Mv.lst es) → ∃ es', N'[j]? = some (q, Mv.lst es') ∧ es'.length ≤ es.length + m
theorem LstB.refl (N : Mu) : LstB 0 N N := fun j q es h => ⟨es, h, Nat.le_refl _⟩
theorem LstB.set {m : Nat} {N N' : Mu} (h : LstB m N N') {j : Nat} {q : Addr} {es es' : List Dv} (hj : N[j]? = some (q, .lst es)) (hj' : N'[j]? = some (q, .lst es')) (x : Dv) (hl : es'.length ≤ es.length + m) : LstB (m + 1) N (N'.set j (q, .lst (es' ++ [x]))) := fun i p fs hi => by
  by_cases e : j = i
  · subst e
    rw [hj] at hi
    cases hi
    refine ⟨es' ++ [x], ?_, ?_⟩
    · rw [List.getElem?_set_self (List.getElem?_eq_some_iff.mp hj').1]
    · rw [List.length_append, List.length_singleton]; omega
  · obtain ⟨fs', h1, h2⟩ := h i p fs hi
    exact ⟨fs', by rw [List.getElem?_set_ne e]; exact h1, by omega⟩
def S_law : DS := fun ds M R => ∃ ns : List Int, ds = [.sql (ns.map .int)] ∧ M = [] ∧ ns.length ≤ 63 ∧ ∀ M', R (.bl true) M'
end Dw
namespace L2
open PySem PySem.Spec PyProof.Rows
/-- d.get(e) -/
def tGetN (K : PySem.W.Frag) (P : Program) (w : World) (to te : TE) : TE := fun σ H Q => to σ H fun x H1 => (∃ d xs, x = .ref d ∧ H1 d = some (dN P w d xs) ∧ NAll K H1 xs) ∧ te σ H1 fun y H2 => rGetN K P w x [y] H2 Q
theorem pe_getN {X : Cx} {K : PySem.W.Frag} {o e : Expr} {apos cpos : Pos} {to te : TE} (hu : X.A.units + 64 < cLine) (hK : X.K = K) (ho : PE X o to) (he : PE X e te) (m : M1 X o "get" apos e cpos) : PE X (.Call (.Attribute o "get" apos) [e] [] cpos) (tGetN K X.prog X.w to te) := by
  subst hK
  refine ⟨fun pins s σ H Q I h => ?_⟩
  refine wpAny_Call_method m.base m.few m.line PySem.F.plainAttrs_dict PySem.F.slot_dict_get PySem.F.type_dict_get (thn (ho.run pins s σ H _ I h) fun u s1 ⟨x, H1, I1, rx, ⟨a, xs, ex, hd, hk⟩, q1⟩ => ?_)
  subst ex
  obtain rfl : u = Value.ref a := rx
  obtain ⟨z, hl, dd⟩ := dn_at I1 hd hk
  refine ⟨dd.typeIs, fun b q => ?_, ?_⟩
  · cases q
    obtain ⟨ob, _, _, h1, h2, _⟩ := dd
    exact ⟨ob, h1, h2.2.1⟩
  rw [m.trees]
  refine Calls.callWith_builtin rfl (Calls.evalArgs_plain (Calls.spliced_cons (thn (he.run pins s1 σ H1 _ I1 q1) fun iv s2 ⟨y, H2, I2, ry, q2⟩ => Calls.spliced_nil ?_)))
  exact mt_getN hu rfl pins s2 σ H2 (.ref a) [y] (.ref a) [iv] Q I2 rfl (.cons ry .nil) q2
end L2
namespace Dw
open PySem L2 TL
section
variable {K : PySem.W.Frag} {Pm F : List Addr} {M : Mu} {Γ : Ga} {ta tb te to ti : TE} {x y z d : Dv} {R : Dv → Mu → Prop} {Pd : Po} {H0 H H' : Hp} {σ : L2.St} {Pr : PySem.Program} {w : PySem.World}
/-- a new mutable object of any kind -/
theorem Stt.newG {p : Addr} {m : Mv} (S : Stt K Pm F M H0 H σ Γ) (hp : H p = none) (e : Same H H') (hm : MvOk K (p :: (ads M ++ F)) H' p m) :
    Stt K Pm F ((p, m) :: M) H0 H' σ Γ ∧ Kp F M H ((p, m) :: M) H' := by
  have hn := S.ms.fresh hp
  have hk : Same (hid (ads M ++ F) H) (hid (ads ((p, m) :: M) ++ F) H') := fun a o q => by
    obtain ⟨n, z⟩ := hid_some q
    have ne : a ≠ p := ne_of_none z hp
    have : a ∉ ads ((p, m) :: M) ++ F := fun y => (List.mem_cons.mp y).elim ne n
    rw [hid_out this]
    exact e a o z
  refine ⟨⟨fun a o n q => e _ _ (S.fr a o n q), fun q hq => ?_, ⟨fun q hq => ?_, ?_, fun a ha => let ⟨o, z⟩ := S.ms.ff a ha; ⟨o, e _ _ z⟩, fun a ha hm => ?_⟩, S.s.keep hk⟩, hk⟩
  · rcases List.mem_cons.mp hq with z | z
    · by_cases hpm : p ∈ Pm
      · exact .inl (by rw [z]; exact hpm)
      · refine .inr ?_
        rw [z]
        cases w : H0 p with
        | none => rfl
        | some o => rw [S.fr p o hpm w] at hp; cases hp
    · exact S.loc q z
  · rcases List.mem_cons.mp hq with z | z
    · rw [z]; exact hm
    · exact (S.ms.ok q z).keep hk fun o => e _ o
  · exact List.nodup_cons.mpr ⟨fun m => hn (List.mem_append_left _ m), S.ms.nd⟩
  · rcases List.mem_cons.mp hm with z | z
    · exact hn (List.mem_append_right _ (by have z' : a = p := z; rw [← z']; exact ha))
    · exact S.ms.ap a ha z
theorem wx_newN (k : ∀ p, p ∉ ads M ++ F → R (.adr p) ((p, .dct Pr w []) :: M)) : WpX K Pm F (tDNewN Pr w) Γ M R := fun H0 σ H S Q q p hp => by
  obtain ⟨S1, k1⟩ := S.newG (m := .dct Pr w []) hp (same_new hp) ⟨[], upd_same, .nil⟩
  exact q _ _ _ _ (k p (S.ms.fresh hp)) S1 k1 (.adr p)
theorem tup_ref {v : V} {ds : List Dv} (r : Rp K H v (.tup ds)) : ∃ b, v = .ref b := by
  cases r with
  | tup h _ => exact ⟨_, rfl⟩
theorem od_ninN {p : Addr} {i : Nat} {ks : List (NestedKey × Dv)} {xs : List Dv} (hi : M[i]? = some (p, .dct Pr w ks)) (hx : Hb 8 (.tup xs)) : OpD K F M (rNinN K Pr w) (.tup xs) (.adr p) (.bl (!(valN ks (nkD (.tup xs))).isSome)) := fun v u H m r1 r2 Q q => by
  cases r2
  obtain ⟨ns, hd, hl⟩ := m.ok _ (List.mem_of_getElem? hi)
  obtain ⟨b, rfl⟩ := tup_ref r1
  have hs := hid_sub (ads M ++ F) H
  obtain ⟨h1, h2⟩ := hl.at (k := nkD (.tup xs))
  refine ⟨p, ns, _, b, rfl, rfl, hd, (hl.mono hs).all, (rp_nk 8 hx r1).mono hs, nk_depth 8 _ hx, ?_⟩
  have e : (atKey ns (nkD (.tup xs))).isSome = (valN ks (nkD (.tup xs))).isSome := by
    cases z : valN ks (nkD (.tup xs)) with
    | none => rw [h1 z]; rfl
    | some d => obtain ⟨p, v, h, _⟩ := h2 d z; rw [h]; rfl
  rw [e]
  exact q _ H (Same.refl H) (.bl _)
theorem od_ixN {p : Addr} {i : Nat} {ks : List (NestedKey × Dv)} {xs : List Dv} (hi : M[i]? = some (p, .dct Pr w ks)) (hx : Hb 8 (.tup xs)) (hv : valN ks (nkD (.tup xs)) = some d) : OpD K F M (rIxN K Pr w) (.adr p) (.tup xs) d := fun v u H m r1 r2 Q q => by
  cases r1
  obtain ⟨ns, hd, hl⟩ := m.ok _ (List.mem_of_getElem? hi)
  obtain ⟨b, rfl⟩ := tup_ref r2
  have hs := hid_sub (ads M ++ F) H
  obtain ⟨h1, h2⟩ := hl.at (k := nkD (.tup xs))
  obtain ⟨pr, v, h, hr, rv⟩ := h2 d hv
  exact ⟨p, ns, _, b, pr, v, rfl, rfl, hd, (hl.mono hs).all, (rp_nk 8 hx r2).mono hs, nk_depth 8 _ hx, h, hr, q v H (Same.refl H) rv⟩
theorem ed_getN {p : Addr} {i : Nat} {ks : List (NestedKey × Dv)} {xs : List Dv} (ho : EvD K F M to Γ (.adr p)) (he : EvD K F M te Γ (.tup xs)) (hi : M[i]? = some (p, .dct Pr w ks)) (hx : Hb 8 (.tup xs)) : EvD K F M (tGetN K Pr w to te) Γ ((valN ks (nkD (.tup xs))).getD .non) := fun σ H m s Q q =>
  ho σ H m s _ fun v H1 e1 r1 => by
    cases r1
    have m1 := m.mono e1
    obtain ⟨ns, hd, hl⟩ := m1.ok _ (List.mem_of_getElem? hi)
    have hs1 := hid_sub (ads M ++ F) H1
    refine ⟨⟨p, ns, rfl, hd, (hl.mono hs1).all⟩, he σ H1 m1 (s.mono e1) _ fun u H2 e2 r2 => ?_⟩
    obtain ⟨b, rfl⟩ := tup_ref r2
    have hs := hid_sub (ads M ++ F) H2
    have hl2 := hl.mono (hid_same e2)
    obtain ⟨h1, h2⟩ := hl2.at (k := nkD (.tup xs))
    have key : NKey K H2 (nkD (.tup xs)) (.ref b) := (rp_nk 8 hx r2).mono hs
    cases z : valN ks (nkD (.tup xs)) with
    | none =>
      rw [z] at q
      exact ⟨p, ns, _, b, .non, rfl, rfl, e2 _ _ hd, (hl2.mono hs).all, key, nk_depth 8 _ hx, fun pr hp => (by rw [h1 z] at hp; cases hp), fun _ => rfl, q .non H2 (e1.trans e2) .non⟩
    | some d =>
      obtain ⟨pr, v, h, hr, rv⟩ := h2 d z
      rw [z] at q
      exact ⟨p, ns, _, b, v, rfl, rfl, e2 _ _ hd, (hl2.mono hs).all, key, nk_depth 8 _ hx, fun pr' hp => (by rw [h] at hp; cases hp; exact hr), fun hn => (by rw [h] at hn; cases hn), q v H2 (e1.trans e2) rv⟩
theorem hid_upd {l : List Addr} {p : Addr} {o : HO} (h : p ∈ l) : hid l (upd H p o) = hid l H := by
  funext a
  by_cases m : a ∈ l
  · rw [hid_in m, hid_in m]
  · rw [hid_out m, hid_out m, upd_ne (fun z => m (by rw [z]; exact h))]
theorem wg_subN {p : Addr} {i : Nat} {ks : List (NestedKey × Dv)} {xs : List Dv} {N : Ga → Mu → Prop} (ho : EvD K F M to Γ (.adr p)) (hi : M[i]? = some (p, .dct Pr w ks)) (hj : EvD K F M ti Γ (.tup xs)) (hx : Hb 8 (.tup xs)) (hn : valN ks (nkD (.tup xs)) = none) (hz : ks.length < 100000)
    (k : N Γ (M.set i (p, .dct Pr w (ks ++ [(nkD (.tup xs), d)])))) : WpG K Pm F (gSub to ti (rSetN K Pr w)) d Γ M N := fun H0 σ H v S r1 Q q =>
  ho σ H S.ms S.s _ fun u H2 e2 r2 => by
      cases r2
      refine hj σ H2 (S.mono e2).ms (S.mono e2).s _ fun y H3 e3 r3 => ?_
      have S3 := (S.mono e2).mono e3
      obtain ⟨ns, hd, hl⟩ := S3.ms.ok _ (List.mem_of_getElem? hi)
      obtain ⟨b, rfl⟩ := tup_ref r3
      have hs := hid_sub (ads M ++ F) H3
      have r1' : Rp K (hid (ads M ++ F) H3) v d := (r1.mono (Kp.of e2)).mono (Kp.of e3)
      have key := rp_nk 8 hx r3
      refine ⟨p, ns, _, b, rfl, rfl, hd, (hl.mono hs).all, key.mono hs, nk_depth 8 _ hx, (hl.at (k := nkD (.tup xs))).1 hn, by rw [hl.len]; exact sz_lt hz, fun u ru => ?_⟩
      have hp : p ∈ ads M ++ F := List.mem_append_left _ (List.mem_map.mpr ⟨_, List.mem_of_getElem? hi, rfl⟩)
      obtain ⟨S4, k4⟩ := S3.upd1 (m' := .dct Pr w (ks ++ [(nkD (.tup xs), d)])) (H' := upd H3 p (dN Pr w p (ns ++ [(nkD (.tup xs), b, u)]))) hi (fun a o ne e => by rw [upd_ne ne]; exact e)
        ⟨_, upd_same, by rw [hid_upd hp]; exact DctL.snoc key (nk_depth 8 _ hx) ru r1' hl⟩
      exact q _ _ _ _ k S4 (((Kp.of e2).trans (Kp.of e3)).trans k4)
/-- what is mutable, in another order, for what follows -/
theorem ws_perm {M' : Mu} {ts : TS} (hp : M.Perm M') (h : WpS K Pm F ts Γ M' Pd) : WpS K Pm F ts Γ M Pd := fun H0 σ H D S n r b c => by
  obtain ⟨S2, k2⟩ := S.perm hp
  exact h H0 σ H D S2 (fun σ' H' Γ' M' z S' k' => n σ' H' Γ' M' z S' (k2.trans k')) (fun v σ' H' Γ' d M' z S' k' => r v σ' H' Γ' d M' z S' (k2.trans k'))
    (fun σ' H' Γ' M' z S' k' => b σ' H' Γ' M' z S' (k2.trans k')) (fun σ' H' Γ' M' z S' k' => c σ' H' Γ' M' z S' (k2.trans k'))
end
end Dw
namespace Dw
open PySem L2 TL
theorem nkL_txt : ∀ o : List Cd, nkD.nkL (o.map nmD) = o.map fun c => NestedKey.text c.nm
  | [] => rfl
  | c :: o => congrArg (NestedKey.text c.nm :: ·) (nkL_txt o)
theorem nkL_num : ∀ v : List Nat, nkD.nkL (v.map iN) = v.map fun n => NestedKey.num (n : Nat)
  | [] => rfl
  | c :: o => congrArg (NestedKey.num (c : Nat) :: ·) (nkL_num o)
abbrev kS (s : List Cd × List Nat) : NestedKey := nkD (stD s.1 s.2)
theorem kS_eq (s : List Cd × List Nat) : kS s = .tup [.tup (s.1.map fun c => .text c.nm), .tup (s.2.map fun n => .num (n : Nat))] := by
  show NestedKey.tup [.tup (nkD.nkL (s.1.map nmD)), .tup (nkD.nkL (s.2.map iN))] = _
  rw [nkL_txt, nkL_num]
theorem hb_st (o : List Cd) (v : List Nat) : Hb 8 (stD o v) := by
  intro x hx
  rcases List.mem_cons.mp hx with rfl | hx
  · intro y hy
    obtain ⟨c, _, rfl⟩ := List.mem_map.mp hy
    exact True.intro
  · rw [List.mem_singleton.mp hx]
    intro y hy
    obtain ⟨c, _, rfl⟩ := List.mem_map.mp hy
    exact True.intro
theorem nm_inj : ∀ {cs : List Cd} {c d : Cd}, (cs.map (·.nm)).Nodup → c ∈ cs → d ∈ cs → c.nm = d.nm → c = d
  | e :: r, c, d, hn, hc, hd, h => by
    rw [List.map_cons, List.nodup_cons] at hn
    rcases List.mem_cons.mp hc with e1 | hc1
    · rcases List.mem_cons.mp hd with e2 | hd2
      · rw [e1, e2]
      · exact absurd (show e.nm ∈ r.map (·.nm) from List.mem_map.mpr ⟨d, hd2, by rw [← h, e1]⟩) hn.1
    · rcases List.mem_cons.mp hd with e2 | hd2
      · exact absurd (show e.nm ∈ r.map (·.nm) from List.mem_map.mpr ⟨c, hc1, by rw [h, e2]⟩) hn.1
      · exact nm_inj hn.2 hc1 hd2 h
theorem map_nm_inj {cs : List Cd} (hn : (cs.map (·.nm)).Nodup) : ∀ {o p : List Cd}, (∀ c ∈ o, c ∈ cs) → (∀ c ∈ p, c ∈ cs) → o.map (·.nm) = p.map (·.nm) → o = p
  | [], [], _, _, _ => rfl
  | [], _ :: _, _, _, h => by cases h
  | _ :: _, [], _, _, h => by cases h
  | c :: o, d :: p, ho, hp, h => by
    rw [List.map_cons, List.map_cons] at h
    injection h with h1 h2
    rw [nm_inj hn (ho c (List.mem_cons_self ..)) (hp d (List.mem_cons_self ..)) h1, map_nm_inj hn (fun x hx => ho x (List.mem_cons_of_mem _ hx)) (fun x hx => hp x (List.mem_cons_of_mem _ hx)) h2]
theorem map_inj' {α β : Type} {f : α → β} (hf : ∀ a b, f a = f b → a = b) : ∀ {l m : List α}, l.map f = m.map f → l = m
  | [], [], _ => rfl
  | [], _ :: _, h => by cases h
  | _ :: _, [], h => by cases h
  | a :: l, b :: m, h => by
    rw [List.map_cons, List.map_cons] at h
    injection h with h1 h2
    rw [hf _ _ h1, map_inj' hf h2]
theorem kS_inj {N : Nat} {D : Dk} (hD : Dk.okN N D) {s t : List Cd × List Nat} (hs : StOk D s) (ht : StOk D t) (h : kS s = kS t) : s = t := by
  rw [kS_eq, kS_eq] at h
  injection h with h
  injection h with h1 h2
  injection h1 with h1
  injection h2 with h2 _
  injection h2 with h2
  have e1 : s.1.map (·.nm) = t.1.map (·.nm) := by
    have : (s.1.map (·.nm)).map NestedKey.text = (t.1.map (·.nm)).map NestedKey.text := by rw [List.map_map, List.map_map]; exact h1
    exact map_inj' (fun a b e => by injection e) this
  have e2 : s.2 = t.2 := map_inj' (f := fun n : Nat => NestedKey.num (n : Nat)) (fun a b e => by injection e with e; omega) h2
  have e3 := map_nm_inj hD.nd (fun c hc => hs.pm.mem_iff.mp hc) (fun c hc => ht.pm.mem_iff.mp hc) e1
  exact Prod.ext e3 e2
/-- from s on, n states are different, and the next one is the j-th -/
structure Cyc (w : Nat) (s : List Cd × List Nat) (n j : Nat) : Prop where
  lt : j < n
  eq : itS w n s = itS w j s
  df : ∀ i k, i < k → k < n → itS w i s ≠ itS w k s
theorem Cyc.uniq {w : Nat} {s : List Cd × List Nat} {n j n' j' : Nat} (h : Cyc w s n j) (h' : Cyc w s n' j') : n = n' ∧ j = j' := by
  have e : n = n' := by
    rcases Nat.lt_trichotomy n n' with z | z | z
    · exact absurd h.eq.symm (h'.df j n h.lt z)
    · exact z
    · exact absurd h'.eq.symm (h.df j' n' h'.lt z)
  subst e
  refine ⟨rfl, ?_⟩
  rcases Nat.lt_trichotomy j j' with z | z | z
  · exact absurd (h.eq.symm.trans h'.eq) (h.df j j' z h'.lt)
  · exact z
  · exact absurd (h'.eq.symm.trans h.eq) (h.df j' j z h.lt)
theorem itS_add (w : Nat) (s : List Cd × List Nat) (a : Nat) : ∀ b, itS w (a + b) s = itS w b (itS w a s)
  | 0 => rfl
  | b + 1 => congrArg (fun t => (stepO w t).1) (itS_add w s a b)
theorem itS_shift {w : Nat} {s : List Cd × List Nat} {a b : Nat} (h : itS w a s = itS w b s) (m : Nat) : itS w (a + m) s = itS w (b + m) s := by rw [itS_add, itS_add, h]
theorem Cyc.wrap {w : Nat} {s : List Cd × List Nat} {n j : Nat} (h : Cyc w s n j) (m q : Nat) : itS w (j + m + q * (n - j)) s = itS w (j + m) s := by
  have hl := h.lt
  induction q with
  | zero => rw [Nat.zero_mul, Nat.add_zero]
  | succ q ih =>
    have e : j + m + (q + 1) * (n - j) = n + (m + q * (n - j)) := by rw [Nat.add_mul, Nat.one_mul]; omega
    rw [e, itS_shift h.eq, ← ih]
    congr 1
    omega
theorem Cyc.far {w : Nat} {s : List Cd × List Nat} {n j : Nat} (h : Cyc w s n j) {m : Nat} (hm : j ≤ m) : itS w m s = itS w (j + (m - j) % (n - j)) s := by
  have hl := h.lt
  have e : m = j + (m - j) % (n - j) + (m - j) / (n - j) * (n - j) := by
    have := Nat.mod_add_div (m - j) (n - j)
    rw [Nat.mul_comm] at this
    omega
  rw [congrArg (fun x => itS w x s) e]
  exact h.wrap _ _
theorem Cyc.idx {w : Nat} {s : List Cd × List Nat} {n j : Nat} (h : Cyc w s n j) (m : Nat) : j + (m - j) % (n - j) < n := by
  have hl := h.lt
  have := Nat.mod_lt (m - j) (y := n - j) (by omega)
  omega
/-- the pairs of the first i turns -/
def kvR (f : Nat → NestedKey) (i : Nat) : List (NestedKey × Dv) := (List.range i).map fun m => (f m, iN m)
theorem kvR_succ (f : Nat → NestedKey) (i : Nat) : kvR f (i + 1) = kvR f i ++ [(f i, iN i)] := by
  unfold kvR
  rw [List.range_succ, List.map_append]
  rfl
theorem kvR_len (f : Nat → NestedKey) (i : Nat) : (kvR f i).length = i := by unfold kvR; rw [List.length_map, List.length_range]
theorem valN_none {ds : List (NestedKey × Dv)} {k : NestedKey} (h : ∀ q ∈ ds, q.1 ≠ k) : valN ds k = none := by
  unfold valN
  rw [List.find?_eq_none.mpr fun q hq => by simpa using h q hq]
  rfl
theorem valN_app {ds es : List (NestedKey × Dv)} {k : NestedKey} (h : valN ds k = none) : valN (ds ++ es) k = valN es k := by
  unfold valN at h ⊢
  rw [List.find?_append]
  cases z : ds.find? fun kv => decide (kv.1 = k) with
  | none => rfl
  | some a => rw [z] at h; cases h
theorem valN_app' {ds es : List (NestedKey × Dv)} {k : NestedKey} {d : Dv} (h : valN ds k = some d) : valN (ds ++ es) k = some d := by
  unfold valN at h ⊢
  rw [List.find?_append]
  cases z : ds.find? fun kv => decide (kv.1 = k) with
  | none => rw [z] at h; cases h
  | some a => rw [z] at h; exact h
theorem valN_kvR_none {f : Nat → NestedKey} {i : Nat} {k : NestedKey} (h : ∀ m < i, f m ≠ k) : valN (kvR f i) k = none := valN_none fun q hq => by
  obtain ⟨m, hm, rfl⟩ := List.mem_map.mp hq
  exact h m (List.mem_range.mp hm)
theorem valN_kvR {f : Nat → NestedKey} {k : NestedKey} {j : Nat} (hj : f j = k) (hn : ∀ m < j, f m ≠ k) : ∀ {i : Nat}, j < i → valN (kvR f i) k = some (iN j)
  | i + 1, h => by
    rw [kvR_succ]
    by_cases e : j = i
    · subst e
      rw [valN_app (valN_kvR_none hn)]
      unfold valN
      rw [List.find?_cons_of_pos (by simpa using hj)]
      rfl
    · exact valN_app' (valN_kvR hj hn (by omega))
/-- the states of the first n turns, as data -/
def stL (w : Nat) (s : List Cd × List Nat) (n : Nat) : List Dv := (List.range n).map fun i => stD (itS w i s).1 (itS w i s).2
theorem stL_succ (w : Nat) (s : List Cd × List Nat) (n : Nat) : stL w s (n + 1) = stL w s n ++ [stD (itS w n s).1 (itS w n s).2] := by
  unfold stL
  rw [List.range_succ, List.map_append]
  rfl
theorem stL_len (w : Nat) (s : List Cd × List Nat) (n : Nat) : (stL w s n).length = n := by unfold stL; rw [List.length_map, List.length_range]
theorem stL_at {w : Nat} {s : List Cd × List Nat} {n i : Nat} (h : i < n) : (stL w s n)[i]? = some (stD (itS w i s).1 (itS w i s).2) := by
  unfold stL
  rw [List.getElem?_map, List.getElem?_range h]
  rfl
def S_list_states (a : Ads) : DS := fun ds M R => ∃ (D : Dk) (s : List Cd × List Nat) (n j : Nat), ds = [pD a D, stD s.1 s.2] ∧ M = [] ∧ D.ok ∧ StOk D s ∧ Cyc D.w s n j ∧ n ≤ 3000 ∧ R (.tup [.lst (stL D.w s n), iN j]) []
end Dw
namespace Dw
open PySem L2 TL
/-- what is emitted in the first n turns, as data -/
def emL (w : Nat) (s : List Cd × List Nat) (n : Nat) : List Dv := (List.range n).map fun i => .lst ((stepO w (itS w i s)).2.1.map iN)
theorem emL_succ (w : Nat) (s : List Cd × List Nat) (n : Nat) : emL w s (n + 1) = emL w s n ++ [.lst ((stepO w (itS w n s)).2.1.map iN)] := by
  unfold emL
  rw [List.range_succ, List.map_append]
  rfl
theorem emL_len (w : Nat) (s : List Cd × List Nat) (n : Nat) : (emL w s n).length = n := by unfold emL; rw [List.length_map, List.length_range]
theorem emL_at {w : Nat} {s : List Cd × List Nat} {n i : Nat} (h : i < n) : (emL w s n)[i]? = some (.lst ((stepO w (itS w i s)).2.1.map iN)) := by
  unfold emL
  rw [List.getElem?_map, List.getElem?_range h]
  rfl
def orD (w : Nat) (s : List Cd × List Nat) (n j : Nat) : Dv := .tup [.lst (stL w s n), .lst (emL w s n), iN j]
def S_orbit : DS := fun ds M R => ∃ (D : Dk) (s : List Cd × List Nat) (L : Nat), ds = [eD D, lwD s.1 s.2, iN L] ∧ M = [] ∧ Dk.okN 7 D ∧ StOk D s ∧ L ≤ 1000 ∧
  (∀ n j, Cyc D.w s n j → n ≤ L → R (orD D.w s n j) []) ∧ ((¬ ∃ n j, Cyc D.w s n j ∧ n ≤ L) → ∀ xs ys, R (.tup [.lst xs, .lst ys, .non]) [])
abbrev st0 (D : Dk) : List Cd × List Nat := (D.cs, [0, 0, 0, 0])
theorem st0_ok (D : Dk) : StOk D (st0 D) := ⟨List.Perm.refl _, rfl⟩
def S_short_deck : DS := fun ds M R => ∃ (r : Addr) (l : List Int) (m : Nat), ds = [.adr r, iN m] ∧ M = [(r, rl l)] ∧ Rnd l ∧ 3 ≤ m ∧ m ≤ 8 ∧ ∀ (D : Dk) n j l', D.ok → DkS D m → Cyc D.w (st0 D) n j → n ≤ 90 → Rnd l' → R (.tup [eD D, orD D.w (st0 D) n j]) [(r, rl l')]
/-- the decks that are written in the law -/
def dkA (w : Nat) : Dk := ⟨w + 8, [⟨"a", [.add 0 1, .emr 0], .num 1⟩, ⟨"b", [], .cho 1 1 2⟩]⟩
def dkB (w : Nat) : Dk := ⟨w, [⟨"a", [.add 0 1], .cho 0 1 0⟩, ⟨"b", [.add 1 1], .cho 1 2 1⟩, ⟨"c", [.emn 1], .num 2⟩]⟩
def dkC : Dk := ⟨3, [⟨"a", [.add 0 1, .emr 0], .num 1⟩, ⟨"b", [], .reg 0⟩]⟩
theorem dkC_cyc : Cyc dkC.w (st0 dkC) 6 5 := by
  refine ⟨by decide, rfl, fun i k h1 h2 e => ?_⟩
  have key : ∀ k < 6, ∀ i < k, ((itS dkC.w i (st0 dkC)).1.map (fun c => c.nm.cps.toList), (itS dkC.w i (st0 dkC)).2) ≠ ((itS dkC.w k (st0 dkC)).1.map (fun c => c.nm.cps.toList), (itS dkC.w k (st0 dkC)).2) := by decide +kernel
  exact key k h2 i h1 (by rw [e])
theorem cd_ok {w : Nat} {c : Cd} (h1 : c.nm ∈ namesA) (h2 : c.ac.length ≤ 6) (h3 : ∀ a ∈ c.ac, a.ok w) (h4 : c.pu.ok) : c.ok w := ⟨h1, h2, h3, h4⟩
theorem nmA : ("a" : Str) ∈ namesA ∧ ("b" : Str) ∈ namesA ∧ ("c" : Str) ∈ namesA := by decide +kernel
theorem nd2 : (["a", "b"] : List Str).Nodup := by decide +kernel
theorem nd3 : (["a", "b", "c"] : List Str).Nodup := by decide +kernel
theorem dkA_ok {w : Nat} (h : 5 ≤ w) (h2 : w ≤ 8) : (dkA w).ok := by
  refine ⟨by show 2 ≤ w + 8; omega, by show w + 8 ≤ 16; omega, Nat.succ_le_succ (Nat.zero_le _), Nat.le_of_ble_eq_true rfl, fun c hc => ?_, nd2⟩
  rcases List.mem_cons.mp hc with rfl | hc
  · refine ⟨nmA.1, Nat.le_of_ble_eq_true rfl, fun a ha => ?_, by show 1 ≤ 9; decide⟩
    rcases List.mem_cons.mp ha with rfl | ha
    · exact ⟨by decide, by show 1 < w + 8; omega⟩
    · rw [List.mem_singleton.mp ha]; show 0 < 4; decide
  · rw [List.mem_singleton.mp hc]
    exact ⟨nmA.2.1, Nat.zero_le _, fun _ h => (nomatch h), by decide, by decide, by decide⟩
theorem dkB_ok {w : Nat} (h : 5 ≤ w) (h2 : w ≤ 8) : (dkB w).ok := by
  refine ⟨by show 2 ≤ w; omega, by show w ≤ 16; omega, Nat.succ_le_succ (Nat.zero_le _), Nat.le_of_ble_eq_true rfl, fun c hc => ?_, nd3⟩
  rcases List.mem_cons.mp hc with rfl | hc
  · refine ⟨nmA.1, Nat.le_of_ble_eq_true rfl, fun a ha => ?_, by decide, by decide, by decide⟩
    rw [List.mem_singleton.mp ha]; exact ⟨by decide, by show 1 < w; omega⟩
  rcases List.mem_cons.mp hc with rfl | hc
  · refine ⟨nmA.2.1, Nat.le_of_ble_eq_true rfl, fun a ha => ?_, by decide, by decide, by decide⟩
    rw [List.mem_singleton.mp ha]; exact ⟨by decide, by show 1 < w; omega⟩
  · rw [List.mem_singleton.mp hc]
    refine ⟨nmA.2.2, Nat.le_of_ble_eq_true rfl, fun a ha => ?_, by show 2 ≤ 9; decide⟩
    rw [List.mem_singleton.mp ha]; show 1 < w; omega
theorem dkA_s {w m : Nat} (h : 2 ≤ m) : DkS (dkA w) m := ⟨h, fun c hc => by
  have hc : c ∈ [(⟨"a", [.add 0 1, .emr 0], .num 1⟩ : Cd), ⟨"b", [], .cho 1 1 2⟩] := hc
  simp only [List.mem_cons, List.not_mem_nil, or_false] at hc
  rcases hc with rfl | rfl <;> (show _ ∈ names9; decide)⟩
theorem dkB_s {w m : Nat} (h : 3 ≤ m) : DkS (dkB w) m := ⟨h, fun c hc => by
  have hc : c ∈ [(⟨"a", [.add 0 1], .cho 0 1 0⟩ : Cd), ⟨"b", [.add 1 1], .cho 1 2 1⟩, ⟨"c", [.emn 1], .num 2⟩] := hc
  simp only [List.mem_cons, List.not_mem_nil, or_false] at hc
  rcases hc with rfl | rfl | rfl <;> (show _ ∈ names9; decide)⟩
theorem dkC_s {m : Nat} (h : 2 ≤ m) : DkS dkC m := ⟨h, fun c hc => by
  have hc : c ∈ [(⟨"a", [.add 0 1, .emr 0], .num 1⟩ : Cd), ⟨"b", [], .reg 0⟩] := hc
  simp only [List.mem_cons, List.not_mem_nil, or_false] at hc
  rcases hc with rfl | rfl <;> (show _ ∈ names9; decide)⟩
theorem dkC_ok : dkC.ok := by
  refine ⟨by decide, by decide, by decide, by decide, fun c hc => ?_, nd2⟩
  rcases List.mem_cons.mp hc with rfl | hc
  · refine ⟨nmA.1, Nat.le_of_ble_eq_true rfl, fun a ha => ?_, by show 1 ≤ 9; decide⟩
    rcases List.mem_cons.mp ha with rfl | ha
    · exact ⟨by decide, by decide⟩
    · rw [List.mem_singleton.mp ha]; show 0 < 4; decide
  · rw [List.mem_singleton.mp hc]
    exact ⟨nmA.2.1, Nat.zero_le _, fun _ h => (nomatch h), by show 0 < 4; decide⟩
end Dw
namespace Dw
open PySem L2 TL
section
variable {K : PySem.W.Frag} {Pm F : List Addr} {M : Mu} {Γ : Ga} {ta tb te tl' to : TE} {x y z d : Dv} {t u : TT} {R : Dv → Mu → Prop} {Pd : Po} {H0 H H' : Hp} {σ : L2.St} {ts : TS}
def rSumG (K : PySem.W.Frag) : List V → Hp → VK → Prop := rSum K
theorem call_sumG {X : Cx} (hK : X.K = K) (hc : X.calm = true) : CallR X (.builtin "sum") (rSumG K) := hK ▸ cr_sum hc
theorem cd_sum {ns : List Int} : CaD K F M (rSumG K) [.lst (ns.map Dv.int)] (.int ns.sum) := fun vs H m r Q q => by
  cases r with
  | cons r1 r2 =>
  cases r2
  cases r1 with
  | lst h1 ry =>
    rename_i a xs
    have e := ry.ints_of
    subst e
    exact ⟨a, ns, rfl, .inl (.inl (hid_some h1).2), q _ H (Same.refl H) (.int _)⟩
def rDivmodG : List V → Hp → VK → Prop := fun xs H Q => ∃ i j, xs = [.int i, .int j] ∧ CDiv i j ∧ ∀ p, H p = none → ∀ o, NdO o → Q (.ref p) (upd H p (.frz o (.tup [.int (i / j), .int (i % j)])))
theorem call_divmodG {X : Cx} : CallR X (.builtin "divmod") rDivmodG := call_divmodF
theorem cd_divmod {i j : Int} (h : CDiv i j) : CaD K F M rDivmodG [.int i, .int j] (.tup [.int (i / j), .int (i % j)]) := fun vs H m r Q q => by
  cases r with
  | cons r1 r2 =>
  cases r2 with
  | cons r2 r3 =>
  cases r3
  cases r1
  cases r2
  exact ⟨i, j, rfl, h, fun p hp o z => q _ _ (same_new hp) (m.newT hp z (.cons (.int _) (.cons (.int _) .nil)))⟩
theorem inV_ints {s : Int} : ∀ ys : List Int, inV (.int s) (ys.map V.int) = decide (s ∈ ys)
  | [] => rfl
  | y :: ys => by
    have ih := inV_ints (s := s) ys
    unfold inV at ih ⊢
    rw [List.map_cons, List.any_cons, ih]
    have e : eqV (.int y) (.int s) = decide (y = s) := by
      show decide (y = s) = _
      rfl
    rw [e]
    by_cases h : y = s
    · simp [h]
    · have h' : ¬ s = y := fun e => h e.symm
      simp [h, h']
theorem od_inTI {s : Int} {ys : List Int} : OpD K F M (rInG K) (.int s) (.tup (ys.map Dv.int)) (.bl (decide (s ∈ ys))) := fun v w H m r1 r2 Q q => by
  cases r1
  cases r2 with
  | tup h2 r2 =>
    have e := r2.ints_of
    subst e
    refine .inr (.inl ⟨_, _, rfl, .inr (sqT_hid h2.1), rfl, ?_, ?_⟩)
    · rw [List.all_map]
      exact List.all_eq_true.mpr fun _ _ => rfl
    · rw [if_neg Bool.false_ne_true, inV_ints]
      exact q _ H (Same.refl H) (.bl _)
/-- for name in range(a, b) -/
theorem ws_forR2 {g : TG} {tA : TA} (h : WpA K Pm F tA Γ M fun ds M1 => ∃ a k : Nat, ds = [.int (a : Nat), .int (a + k : Nat)] ∧ k ≤ 100000 ∧ a ≤ 100000 ∧ ∃ I : Nat → Ga → Mu → Prop, I 0 Γ M1 ∧
      (∀ (i : Nat) Γ' M', i < k → I i Γ' M' → ∃ Γ'', TgD K g (.int (a + i : Nat)) Γ' Γ'' ∧ WpS K Pm F ts Γ'' M' { n := I (i + 1), c := I (i + 1), b := Pd.n, r := Pd.r }) ∧
      ∀ Γ' M', I k Γ' M' → Pd.n Γ' M') : WpS K Pm F (tFor (iRng2 tA) g ts) Γ M Pd := fun H0 σ H D S n r b c =>
  h H0 σ H S _ fun vs H1 ds M1 ⟨a, k, hd, hz, hz', I, h0, ht, he⟩ S1 k1 r1 => by
    subst hd
    cases r1 with
    | cons r1 r2 =>
    cases r2 with
    | cons r2 r3 =>
    cases r3
    cases r1
    cases r2
    have ek : (((a + k : Nat) : Int) - (a : Nat)).toNat = k := by omega
    refine ⟨(a : Nat), (a + k : Nat), rfl, ⟨by omega, by omega, by omega, by omega⟩, ?_⟩
    rw [ek]
    refine for_range (lo := (a : Nat)) (n := k) (fun i => Wd K Pm F M1 H0 H1 (I i)) ⟨Γ, M1, h0, S1, Same.refl _⟩ (fun i σ' H' hx p => ?_) fun σ' H' p => ?_
    · obtain ⟨Γ', M', hI, S', k'⟩ := p
      obtain ⟨Γ'', tg, hb⟩ := ht i Γ' M' hx hI
      have e0 : ((a : Nat) : Int) + (i : Int) = ((a + i : Nat) : Int) := by omega
      rw [e0]
      refine tg _ σ' H' _ S'.s (.int _) _ fun σ2 s2 => ?_
      exact hb H0 σ2 H' _ ⟨S'.fr, S'.loc, S'.ms, s2⟩ (fun σ3 H3 Γ3 M3 q3 S3 k3 => ⟨Γ3, M3, q3, S3, k'.trans k3⟩) (fun v σ3 H3 Γ3 d M3 q3 S3 k3 r3 => r v σ3 H3 Γ3 d M3 q3 S3 ((k1.trans k').trans k3) r3)
        (fun σ3 H3 Γ3 M3 q3 S3 k3 => n σ3 H3 Γ3 M3 q3 S3 ((k1.trans k').trans k3)) (fun σ3 H3 Γ3 M3 q3 S3 k3 => ⟨Γ3, M3, q3, S3, k'.trans k3⟩)
    · obtain ⟨Γ', M', hI, S', k'⟩ := p
      exact n σ' H' Γ' M' (he Γ' M' hI) S' (k1.trans k')
/-- o.m(..), o an object that stays as it is -/
theorem ed_methI {C : Addr} {m : Str} {n : Nat} {Sp : DS} {E : XK} {tA : TA} {gs : List (Str × Dv)} {ds : List Dv} (ho : EvD K F M to Γ (.ins C gs)) (hm : gs.lookup m = none) (ha : EvA K F M tA Γ ds) (hn : ds.length + 1 = n) (hs : Sp (.ins C gs :: ds) [] fun d' N => d' = d ∧ N = []) :
    EvD K F M (tMeth C m (spD K n Sp) [] E to tA) Γ d := fun σ H ms s Q q =>
  ho σ H ms s _ fun v H1 e1 r1 => by
    have r1' := r1
    cases r1 with
    | ins hx rx =>
    have m1 := ms.mono e1
    refine ⟨_, _, _, rfl, (hid_some hx).2, rx.none hm, ha σ H1 m1 (s.mono e1) _ fun vs H2 e2 r2 => ?_⟩
    have m2 := m1.mono e2
    rw [List.append_nil]
    refine ⟨ads M ++ F, [], .ins C gs :: ds, _, ?_, ⟨fun q hq => (nomatch hq), List.nodup_nil, fun a ha => ?_, fun a _ hm => (nomatch hm)⟩, .cons (r1'.mono (hid_same e2)) r2, hs, fun v H3 d' N M2 hR ha hnew hf hm r3 => ?_⟩
    · show vs.length + 1 = n
      rw [r2.len]; exact hn
    · rcases List.mem_append.mp ha with z | z
      · obtain ⟨q', hq, e⟩ := List.mem_map.mp z
        rw [← e]
        exact (m2.ok q' hq).there
      · exact m2.ff a z
    · obtain ⟨rfl, e0⟩ := hR
      have e : Same H2 H3 := fun a o => hf a o (fun z => nomatch z)
      rw [e0] at r3
      exact q v H3 ((e1.trans e2).trans e) r3
/-! two clauses: for a, b in enumerate(xs) for c in b -/
theorem wipe3 {σ : L2.St} {i j k : Nat} {a b : V} : wipe (((wipe σ [i, j, k]).set i (some a)).set j (some b)) [i, j, k] = wipe σ [i, j, k] := by
  show (((((((σ.set k none).set j none).set i none).set i (some a)).set j (some b)).set k none).set j none).set i none = ((σ.set k none).set j none).set i none
  apply List.ext_getElem?
  intro n
  simp only [List.getElem?_set, List.length_set]
  repeat' split
  all_goals first | rfl | omega | simp_all
theorem set3 {σ : L2.St} {i j k : Nat} {a b c : V} (h1 : i ≠ j) (h2 : i ≠ k) (h3 : j ≠ k) : (wipe (((wipe σ [i, j, k]).set i (some a)).set j (some b)) [k]).set k (some c) = ((σ.set i (some a)).set j (some b)).set k (some c) := by
  show ((((((σ.set k none).set j none).set i none).set i (some a)).set j (some b)).set k none).set k (some c) = _
  apply List.ext_getElem?
  intro n
  simp only [List.getElem?_set, List.length_set]
  repeat' split
  all_goals first | rfl | omega | simp_all
/-- all that the turns give -/
def flatG (g : Nat → Dv → Dv) : Nat → List (List Dv) → List Dv
  | _, [] => []
  | i, ds :: r => ds.map (g i) ++ flatG g (i + 1) r
theorem flatG_snoc (g : Nat → Dv → Dv) (ds : List Dv) : ∀ (i : Nat) (l : List (List Dv)), flatG g i (l ++ [ds]) = flatG g i l ++ ds.map (g (i + l.length))
  | i, [] => by simp [flatG]
  | i, e :: l => by
    show e.map (g i) ++ flatG g (i + 1) (l ++ [ds]) = (e.map (g i) ++ flatG g (i + 1) l) ++ _
    rw [flatG_snoc g ds (i + 1) l, List.append_assoc, List.length_cons]
    congr 4
    omega
theorem Lcs.mono {H1 H2 H3 : Hp} {Dl : Addr} {acc : List Dv} (c : Lcs K F M H1 Dl acc H2) (e : Same H2 H3) : Lcs K F M H1 Dl acc H3 := by
  obtain ⟨xs, hx, rx⟩ := c.l
  exact ⟨c.e.trans e, xs, e _ _ hx, rx.mono (hid_same e)⟩
theorem en_lc2E {i1 i2 i3 : Nat} (g : Nat → Dv → Dv) {dss : List (List Dv)} {tA : TA} (h12 : i1 ≠ i2) (h13 : i1 ≠ i3) (h23 : i2 ≠ i3) (hl2 : i2 < Γ.length)
    (h : EvA K F M tA Γ [.lst (dss.map Dv.lst)]) (hz : (flatG g 0 dss).length ≤ 60000)
    (hg : ∀ (i : Nat) ds d, dss[i]? = some ds → d ∈ ds → ∀ Dl, EvD K (Dl :: F) M te (((Γ.set i1 (some (.int (i : Nat)))).set i2 (some (.lst ds))).set i3 (some d)) (g i d)) :
    EvN K F M (tLc2 (iEnum K tA) (gTup K 2 (gCons (gName i1) (gCons (gName i2) gNil))) tYes (iList K (tVar i2)) (gName i3) tYes te [i1, i2, i3] [i3]) Γ (flatG g 0 dss) := fun σ H m s Q q => h σ H m s _ fun vs H1 e1 r1 => by
  cases r1 with
  | cons r1 r2 =>
  cases r2
  cases r1 with
  | lst hq rx =>
  rename_i a xs
  have hq' : SqL K (hid (ads M ++ F) H1) a xs := .inl (.inl hq)
  have m1 := m.mono e1
  have s1 := s.mono e1
  have hxl : xs.length = dss.length := by rw [rx.len, List.length_map]
  have hpart : ∀ i ds j, dss[i]? = some ds → (flatG g 0 (dss.take i) ++ (ds.take j).map (g i)).length ≤ (flatG g 0 dss).length := fun i ds j hds => by
    have e : dss = dss.take i ++ ds :: dss.drop (i + 1) := by
      have hi := (List.getElem?_eq_some_iff.mp hds).1
      have hd : dss[i] = ds := (List.getElem?_eq_some_iff.mp hds).2
      rw [← hd, ← List.drop_eq_getElem_cons hi, List.take_append_drop]
    have key : ∀ (l r : List (List Dv)) (n : Nat), (flatG g n (l ++ r)).length = (flatG g n l).length + (flatG g (n + l.length) r).length := fun l => by
      induction l with
      | nil => intro r n; simp [flatG]
      | cons x l ih =>
        intro r n
        show (x.map (g n) ++ flatG g (n + 1) (l ++ r)).length = (x.map (g n) ++ flatG g (n + 1) l).length + _
        rw [List.length_append, List.length_append, ih, List.length_cons]
        have : n + 1 + l.length = n + (l.length + 1) := by omega
        rw [this]
        omega
    rw [congrArg (fun z => (flatG g 0 z).length) e, key, List.length_append]
    show _ ≤ _ + (ds.map _ ++ _).length
    rw [List.length_append, List.length_map, List.length_map, List.length_take]
    omega
  refine ⟨a, xs, rfl, (hid_sub _ _).seq hq', fun Dl hD => ?_⟩
  refine ⟨fun i mm H' => mm = xs.length - i ∧ i ≤ xs.length ∧ Lcs K F M H1 Dl (flatG g 0 (dss.take i)) H', ⟨xs.length, by simp, Nat.zero_le _, same_new hD, [], upd_same, .nil⟩, ?_⟩
  rintro i mm H' ⟨rfl, hi, c⟩
  have hs : SqL K H' a xs := c.e.seq ((hid_sub _ _).seq hq')
  by_cases hlt : i < xs.length
  · refine .inr ⟨⟨xs, xs[i], hs, by simp [hlt]⟩, fun H2 => Lcs K F M H1 Dl (flatG g 0 (dss.take (i + 1))) H2, fun H2 z => ⟨xs.length - (i + 1), by omega, rfl, hlt, z⟩, fun v H2 hy => ?_⟩
    obtain ⟨T, x, rfl, hT, rfl, hx⟩ := hy
    have hx := hx xs hs
    obtain ⟨e, he, re⟩ := rx.getV hx
    rw [List.getElem?_map] at he
    cases hds : dss[i]? with
    | none => rw [hds] at he; cases he
    | some ds =>
    rw [hds] at he
    cases he
    have re' := re
    obtain ⟨b, ys, hxe, hb, rb⟩ : ∃ b ys, x = .ref b ∧ hid (ads M ++ F) H1 b = some (.lst ys) ∧ RpL K (hid (ads M ++ F) H1) ys ds := by
      cases re with
      | lst h r => exact ⟨_, _, rfl, h, r⟩
    subst hxe
    have hT2 : Same H' (upd H' T (.tup [.int (i : Nat), .ref b])) := same_new hT
    have c2 := c.mono hT2
    have hb2 : ∀ {H3 : Hp}, Same H1 H3 → SqL K H3 b ys := fun e => e.seq (.inl (.inl (hid_some hb).2))
    refine ⟨T, [.int (i : Nat), .ref b], rfl, .inl (.inl upd_same), rfl, ⟨_, _, rfl, ⟨_, _, rfl, rfl, ?_⟩⟩⟩
    refine ⟨wipe3, ?_⟩
    unfold tYes
    simp only [if_true]
    have hσ : ((((wipe σ [i1, i2, i3]).set i1 (some (V.int (i : Nat)))).set i2 (some (.ref b))) : L2.St)[i2]? = some (some (.ref b)) := by
      rw [List.getElem?_set_self]
      rw [List.length_set, wipe_length, ← s.len]
      exact hl2
    refine ⟨.ref b, hσ, b, rfl, ⟨ys, hb2 c2.e⟩, ?_⟩
    refine ⟨fun j kk H3 => kk = ys.length - j ∧ j ≤ ys.length ∧ Lcs K F M H1 Dl (flatG g 0 (dss.take i) ++ (ds.take j).map (g i)) H3, ⟨ys.length, by simp, Nat.zero_le _, by rw [List.take_zero, List.map_nil, List.append_nil]; exact c2⟩, ?_⟩
    rintro j kk H3 ⟨rfl, hj, c3⟩
    by_cases hlt3 : j < ys.length
    · refine .inr ⟨⟨ys, ys[j], hb2 c3.e, by simp [hlt3]⟩, fun H4 => Lcs K F M H1 Dl (flatG g 0 (dss.take i) ++ (ds.take (j + 1)).map (g i)) H4, fun H4 z => ⟨ys.length - (j + 1), by omega, rfl, hlt3, z⟩, fun y H4 hy => ?_⟩
      obtain ⟨rfl, hy⟩ := hy
      have hy := hy ys (hb2 c3.e)
      obtain ⟨dj, hdj, rdj⟩ := rb.getV hy
      refine ⟨wipe_one _ _ _, ?_⟩
      have es : ((wipe ((((wipe σ [i1, i2, i3]).set i1 (some (V.int (i : Nat)))).set i2 (some (.ref b))) : L2.St) [i3]).set i3 (some y)) = (wipe ((σ.set i1 (some (V.int (i : Nat)))).set i2 (some (.ref b))) [i3]).set i3 (some y) := by
        rw [set3 h12 h13 h23]
        show _ = (((σ.set i1 _).set i2 _).set i3 none).set i3 _
        rw [List.set_set]
      rw [es]
      have s2 : Sl K (ads M ++ F) H1 ((σ.set i1 (some (V.int (i : Nat)))).set i2 (some (.ref b))) ((Γ.set i1 (some (.int (i : Nat)))).set i2 (some (.lst ds))) := (s1.set i1 (.int _)).set i2 re'
      exact c3.turn (j := i3) (t := tYes) (te := te) (b := true) (g := g i dj) hD m1 s2 rdj (Nat.le_trans (hpart i ds j hds) hz) et_yes (fun _ => hg i ds dj hds (List.mem_of_getElem? hdj) Dl) (by
        rw [List.take_succ, hdj, List.map_append, ← List.append_assoc]
        rfl)
    · refine .inl ⟨⟨ys, hb2 c3.e, by omega⟩, ?_⟩
      have ej : j = ds.length := by have := rb.len; omega
      rw [ej, List.take_length] at c3
      have ei : (dss.take i).length = i := by rw [List.length_take]; omega
      have : flatG g 0 (dss.take (i + 1)) = flatG g 0 (dss.take i) ++ ds.map (g i) := by
        rw [List.take_succ, hds]
        show flatG g 0 (dss.take i ++ [ds]) = _
        rw [flatG_snoc, ei, Nat.zero_add]
      rw [this]
      exact c3
  · refine .inl ⟨⟨xs, hs, by omega⟩, ?_⟩
    have ei : i = dss.length := by omega
    rw [ei, List.take_length] at c
    obtain ⟨zs, hzs, rzs⟩ := c.l
    exact q Dl H' zs (none_back e1 hD) (e1.trans c.e) hzs rzs
end
end Dw
namespace Dw
open PySem L2 TL
def wt1 (wt : Cd → Nat) (s : List Cd × List Nat) : Nat := match s.1 with
  | [] => 0
  | c :: _ => wt c
def wsum (wt : Cd → Nat) (w : Nat) (s : List Cd × List Nat) : Nat → Nat
  | 0 => 0
  | m + 1 => wsum wt w s m + wt1 wt (itS w m s)
theorem wsum_mono {wt : Cd → Nat} {w : Nat} {s : List Cd × List Nat} {a b : Nat} (h : a ≤ b) : wsum wt w s a ≤ wsum wt w s b := by
  induction b with
  | zero => have : a = 0 := by omega
            rw [this]; exact Nat.le_refl _
  | succ b ih =>
    by_cases e : a = b + 1
    · rw [e]; exact Nat.le_refl _
    · exact Nat.le_trans (ih (by omega)) (Nat.le_add_right _ _)
theorem wsum_add (wt : Cd → Nat) (w : Nat) (s : List Cd × List Nat) (a : Nat) : ∀ b, wsum wt w s (a + b) = wsum wt w s a + wsum wt w (itS w a s) b
  | 0 => rfl
  | b + 1 => by
    show wsum wt w s (a + b) + wt1 wt (itS w (a + b) s) = _ + (wsum wt w (itS w a s) b + wt1 wt (itS w b (itS w a s)))
    rw [wsum_add wt w s a b, itS_add, Nat.add_assoc]
theorem wsum_shift {wt : Cd → Nat} {w : Nat} {s : List Cd × List Nat} {a b : Nat} (h : itS w a s = itS w b s) (m : Nat) : wsum wt w s (a + m) + wsum wt w s b = wsum wt w s (b + m) + wsum wt w s a := by
  rw [wsum_add, wsum_add, h]
  omega
/-- whole rounds -/
theorem Cyc.rounds {w : Nat} {s : List Cd × List Nat} {n j : Nat} (h : Cyc w s n j) (wt : Cd → Nat) (m : Nat) : ∀ q, wsum wt w s (j + m + q * (n - j)) = wsum wt w s (j + m) + q * (wsum wt w s n - wsum wt w s j)
  | 0 => by rw [Nat.zero_mul, Nat.zero_mul, Nat.add_zero, Nat.add_zero]
  | q + 1 => by
    have hl := h.lt
    have hm := wsum_mono (wt := wt) (w := w) (s := s) (Nat.le_of_lt hl)
    have e1 : j + m + (q + 1) * (n - j) = n + (m + q * (n - j)) := by rw [Nat.add_mul, Nat.one_mul]; omega
    have e2 : j + m + q * (n - j) = j + (m + q * (n - j)) := by omega
    have ih := h.rounds wt m q
    rw [e2] at ih
    have := wsum_shift (wt := wt) h.eq (m + q * (n - j))
    rw [e1]
    rw [Nat.add_mul, Nat.one_mul]
    omega
theorem Cyc.sum {w : Nat} {s : List Cd × List Nat} {n j : Nat} (h : Cyc w s n j) (wt : Cd → Nat) {m : Nat} (hm : j ≤ m) : wsum wt w s m = wsum wt w s (j + (m - j) % (n - j)) + (m - j) / (n - j) * (wsum wt w s n - wsum wt w s j) := by
  have hl := h.lt
  have e : m = j + (m - j) % (n - j) + (m - j) / (n - j) * (n - j) := by
    have := Nat.mod_add_div (m - j) (n - j)
    rw [Nat.mul_comm] at this
    omega
  rw [congrArg (fun x => wsum wt w s x) e]
  exact h.rounds wt _ _
/-- how many values a card emits -/
def emits (c : Cd) : Nat := (c.ac.filter fun a => match a with
  | .emr _ => true
  | .emn _ => true
  | _ => false).length
theorem runV_emits (w : Nat) (acs : List Ac) (v : List Nat) : (runV w acs v).2.length = (acs.filter fun a => match a with
  | .emr _ => true
  | .emn _ => true
  | _ => false).length := by
  have : ∀ (acs : List Ac) (p : List Nat × List Nat), (acs.foldl (fun p c => (actV w p.1 c, p.2 ++ emV p.1 c)) p).2.length = p.2.length + (acs.filter fun a => match a with
    | .emr _ => true
    | .emn _ => true
    | _ => false).length := fun acs => by
    induction acs with
    | nil => intro p; rfl
    | cons c acs ih =>
      intro p
      rw [List.foldl_cons, ih, List.filter_cons]
      cases c <;> simp [emV] <;> omega
  have h := this acs (v, [])
  rw [List.length_nil, Nat.zero_add] at h
  exact h
abbrev em (w : Nat) (s : List Cd × List Nat) (i : Nat) : List Nat := (stepO w (itS w i s)).2.1
theorem em_len {D : Dk} (hD : D.ok) {s : List Cd × List Nat} (h : StOk D s) (i : Nat) : (em D.w s i).length = wt1 emits (itS D.w i s) := by
  obtain ⟨c, r, v, e, _⟩ := (h.its i).cons hD
  show (stepO D.w (itS D.w i s)).2.1.length = _
  rw [e]
  exact runV_emits D.w c.ac v
theorem emits_le {D : Dk} (hD : D.ok) {c : Cd} (h : c ∈ D.cs) : emits c ≤ 6 := Nat.le_trans (List.length_filter_le ..) (hD.cs c h).len
/-- the values of the steps from a on, k steps, with their steps -/
def plN (w : Nat) (s : List Cd × List Nat) (a : Nat) : Nat → List (Nat × Nat)
  | 0 => []
  | k + 1 => plN w s a k ++ (em w s (a + k)).map fun v => (a + k, v)
theorem plN_len {D : Dk} (hD : D.ok) {s : List Cd × List Nat} (h : StOk D s) (a : Nat) : ∀ k, (plN D.w s a k).length + wsum emits D.w s a = wsum emits D.w s (a + k)
  | 0 => by show 0 + _ = _; rw [Nat.zero_add]; rfl
  | k + 1 => by
    show (plN D.w s a k ++ _).length + _ = wsum emits D.w s (a + k) + wt1 emits (itS D.w (a + k) s)
    rw [List.length_append, List.length_map, em_len hD h, ← plN_len hD h a k]
    omega
theorem plN_app (w : Nat) (s : List Cd × List Nat) (a b : Nat) : ∀ k, plN w s a (b + k) = plN w s a b ++ plN w s (a + b) k
  | 0 => by show plN w s a b = _ ++ []; rw [List.append_nil]
  | k + 1 => by
    show plN w s a (b + k) ++ (em w s (a + (b + k))).map (fun v => (a + (b + k), v)) = plN w s a b ++ (plN w s (a + b) k ++ (em w s (a + b + k)).map (fun v => (a + b + k, v)))
    rw [show a + (b + k) = a + b + k from (Nat.add_assoc ..).symm, plN_app w s a b k, List.append_assoc]
/-- the i-th of them stands in its step -/
theorem plN_at {D : Dk} (hD : D.ok) {s : List Cd × List Nat} (h : StOk D s) (a : Nat) : ∀ {k i : Nat} {p : Nat × Nat}, (plN D.w s a k)[i]? = some p → a ≤ p.1 ∧ p.1 < a + k ∧ wsum emits D.w s p.1 ≤ i + wsum emits D.w s a ∧ i + wsum emits D.w s a < wsum emits D.w s (p.1 + 1)
  | 0, i, p, e => by simp [plN] at e
  | k + 1, i, p, e => by
    have hl := plN_len hD h a k
    have e' : (plN D.w s a k ++ (em D.w s (a + k)).map fun v => (a + k, v))[i]? = some p := e
    by_cases hi : i < (plN D.w s a k).length
    · rw [List.getElem?_append_left hi] at e'
      obtain ⟨h1, h2, h3, h4⟩ := plN_at hD h a e'
      exact ⟨h1, by omega, h3, h4⟩
    · rw [List.getElem?_append_right (by omega), List.getElem?_map] at e'
      cases hv : (em D.w s (a + k))[i - (plN D.w s a k).length]? with
      | none => rw [hv] at e'; cases e'
      | some v =>
        rw [hv] at e'
        cases e'
        have hlt := (List.getElem?_eq_some_iff.mp hv).1
        rw [em_len hD h] at hlt
        refine ⟨Nat.le_add_right a k, by show a + k < a + (k + 1); omega, by show wsum emits D.w s (a + k) ≤ _; omega, ?_⟩
        show _ < wsum emits D.w s (a + k) + wt1 emits (itS D.w (a + k) s)
        omega
theorem plN_ge {D : Dk} (hD : D.ok) {s : List Cd × List Nat} (h : StOk D s) (n : Nat) : (plN D.w s 0 n).length = wsum emits D.w s n := by
  have := plN_len hD h 0 n
  rw [Nat.zero_add] at this
  exact this
theorem wsum_le {D : Dk} (hD : D.ok) {s : List Cd × List Nat} (h : StOk D s) : ∀ n, wsum emits D.w s n ≤ 6 * n
  | 0 => Nat.zero_le _
  | n + 1 => by
    have ih := wsum_le hD h n
    obtain ⟨c, r, v, e, hc, _⟩ := (h.its n).cons hD
    have := emits_le hD hc
    show wsum emits D.w s n + wt1 emits (itS D.w n s) ≤ _
    rw [e]
    show _ + emits c ≤ _
    omega
/-- a place as data -/
def plD (p : Nat × Nat) : Dv := .tup [iN p.1, iN p.2]
/-- the value with a number, and its step -/
def findP (w : Nat) (s : List Cd × List Nat) (n j k : Nat) : Option (Nat × Nat) :=
  if k < (plN w s 0 n).length then (plN w s 0 n)[k]?
  else if (plN w s 0 n).length - (plN w s 0 j).length = 0 then none
  else ((plN w s 0 n)[(plN w s 0 j).length + (k - (plN w s 0 j).length) % ((plN w s 0 n).length - (plN w s 0 j).length)]?).map fun p => (p.1 + (k - (plN w s 0 j).length) / ((plN w s 0 n).length - (plN w s 0 j).length) * (n - j), p.2)
def opD : Option (Nat × Nat) → Dv
  | none => .non
  | some p => plD p
end Dw
namespace Dw
open PySem L2 TL
section
variable {K : PySem.W.Frag} {Pm F : List Addr} {M : Mu} {Γ : Ga} {ta tb te tl to : TE} {x y z d : Dv} {t u : TT} {R : Dv → Mu → Prop} {H0 H H' : Hp} {σ : L2.St}
theorem en_lcTF {j : Nat} {ds : List Dv} (f : Dv → Bool) (g : Dv → Dv) (h : EvD K F M tl Γ (.tup ds)) (hz : ds.length ≤ 60000)
    (ht : ∀ (i : Nat) e, ds[i]? = some e → ∀ Dl, EvT K (Dl :: F) M t (Γ.set j (some e)) (f e)) (hg : ∀ (i : Nat) e, ds[i]? = some e → f e = true → ∀ Dl, EvD K (Dl :: F) M te (Γ.set j (some e)) (g e)) :
    EvN K F M (tLc (iTup K tl) (gName j) t te [j]) Γ ((ds.filter f).map g) := fun σ H m s Q q => h σ H m s _ fun v H1 e1 r1 => by
  cases r1 with
  | tup hq rx =>
  rename_i a xs
  have m1 := m.mono e1
  have s1 := s.mono e1
  refine ⟨a, rfl, ⟨xs, sqT_hid hq.1⟩, fun Dl hD => ?_⟩
  refine lc_tup (xs := xs) (fun i => Lcs K F M H1 Dl (((ds.take i).filter f).map g)) ⟨same_new hD, [], upd_same, .nil⟩ (fun i H' _ c => sqT_mono c.e (sqT_hid hq.1)) (fun i x H' hx c => ?_) fun H' c => ?_
  · obtain ⟨e, he, re⟩ := rx.getV hx
    refine ⟨wipe_one σ j x, c.turn hD m1 s1 re ?_ (ht i e he Dl) (fun hb => hg i e he hb Dl) (take_step f g he)⟩
    have := (List.getElem?_eq_some_iff.mp he).1
    have h1 := List.length_filter_le f (ds.take i)
    rw [List.length_map]
    rw [List.length_take] at h1
    omega
  · rw [rx.len, List.take_length] at c
    obtain ⟨ys, hy, ry⟩ := c.l
    exact q Dl H' ys (none_back e1 hD) (e1.trans c.e) hy ry
end
/-- a text that reads as the deck D -/
structure TxOk (x : Str) (D : Dk) : Prop where
  ok : D.ok
  len : x.length ≤ 50000
  rows : ∀ r ∈ Txt.split x "\n", r.length ≤ 50000
  lex : ∃ ts, lexT x = some ts ∧ ts.length ≤ 50000 ∧ At ts 0 (deckT D)
theorem txOk_of {D : Dk} (hD : D.ok) : TxOk (mk (deckL D)) D := by
  obtain ⟨ts, h1, h2, h3, h4, h5⟩ := deck_lex hD
  exact ⟨hD, h4, h5, ts, h1, h3, h2⟩
def BegOk (D : Dk) (b : Option (List Cd × List Nat)) : Prop := ∀ o v, b = some (o, v) → o.Perm D.cs ∧ v.length = 4 ∧ ∀ x ∈ v, x < D.w
theorem BegOk.st {D : Dk} {b : Option (List Cd × List Nat)} (h : BegOk D b) : StOk D (frSt D b) := by
  cases b with
  | none => exact st0_ok D
  | some p =>
    obtain ⟨o, v⟩ := p
    obtain ⟨h1, h2, _⟩ := h o v rfl
    exact ⟨h1, h2⟩
theorem begNone (D : Dk) : BegOk D none := fun _ _ h => (nomatch h)
/-- few steps, or a cycle -/
def Far (D : Dk) (s : List Cd × List Nat) (m : Nat) : Prop := m ≤ 3000 ∨ ∃ n j, Cyc D.w s n j ∧ n ≤ 3000
def kEm (d : Dv) : Bool := match d with
  | .tup (.int k :: _) => decide (k ∈ [(3 : Int), 4])
  | _ => false
theorem kEm_len : ∀ acs : List Ac, ((acs.map pA).filter kEm).length = (acs.filter fun a => match a with
  | .emr _ => true
  | .emn _ => true
  | _ => false).length
  | [] => rfl
  | c :: acs => by
    have ih := kEm_len acs
    have no : ¬ (false = true) := Bool.false_ne_true
    cases c with
    | add r n => rw [List.map_cons, List.filter_cons_of_neg (show ¬ kEm (pA (.add r n)) = true from no), List.filter_cons_of_neg no]; exact ih
    | copy r n => rw [List.map_cons, List.filter_cons_of_neg (show ¬ kEm (pA (.copy r n)) = true from no), List.filter_cons_of_neg no]; exact ih
    | swap r n => rw [List.map_cons, List.filter_cons_of_neg (show ¬ kEm (pA (.swap r n)) = true from no), List.filter_cons_of_neg no]; exact ih
    | emr r => rw [List.map_cons, List.filter_cons_of_pos (show kEm (pA (.emr r)) = true from rfl), List.filter_cons_of_pos rfl]; exact congrArg Nat.succ ih
    | emn n => rw [List.map_cons, List.filter_cons_of_pos (show kEm (pA (.emn n)) = true from rfl), List.filter_cons_of_pos rfl]; exact congrArg Nat.succ ih
def S_count_emits (a : Ads) : DS := fun ds M R => ∃ c : Cd, ds = [pC a c] ∧ M = [] ∧ c.ac.length ≤ 6 ∧ R (iN (emits c)) []
def wtD (wt : Cd → Nat) (cs : List Cd) : Dv := .dic (cs.map fun c => ((.inr c.nm : Key), iN (wt c)))
theorem valD_wt {wt : Cd → Nat} : ∀ {cs : List Cd} {c : Cd}, c ∈ cs → (cs.map (·.nm)).Nodup → valD (cs.map fun c => ((.inr c.nm : Key), iN (wt c))) (.inr c.nm) = some (iN (wt c))
  | e :: r, c, hc, hn => by
    rw [List.map_cons, List.nodup_cons] at hn
    rcases List.mem_cons.mp hc with z | z
    · rw [z]; exact valD_pos rfl
    · rw [List.map_cons, valD_neg (fun h => hn.1 (by have : e.nm = c.nm := Sum.inr.inj h; rw [this]; exact List.mem_map.mpr ⟨c, z, rfl⟩))]
      exact valD_wt z hn.2
def S_add_up (a : Ads) : DS := fun ds M R => ∃ (D : Dk) (s : List Cd × List Nat) (m : Nat) (wt : Cd → Nat), ds = [pD a D, stD s.1 s.2, iN m, wtD wt D.cs] ∧ M = [] ∧ D.ok ∧ StOk D s ∧ (∀ c ∈ D.cs, wt c ≤ 1000) ∧ Far D s m ∧ R (iN (wsum wt D.w s m)) []
def S_count_emitted (a : Ads) : DS := fun ds M R => ∃ (x : Str) (D : Dk) (m : Nat) (b : Option (List Cd × List Nat)), ds = [.str x, iN m, oSt b] ∧ M = [] ∧ TxOk x D ∧ m ≤ 1000000000000000000 ∧ BegOk D b ∧ Far D (frSt D b) m ∧ R (iN (wsum emits D.w (frSt D b) m)) []
/-- the weights of the first n steps -/
def wL (wt : Cd → Nat) (w : Nat) (s : List Cd × List Nat) (n : Nat) : List Int := (List.range n).map fun i => ((wt1 wt (itS w i s) : Nat) : Int)
theorem wL_len (wt : Cd → Nat) (w : Nat) (s : List Cd × List Nat) (n : Nat) : (wL wt w s n).length = n := by unfold wL; rw [List.length_map, List.length_range]
theorem wL_succ (wt : Cd → Nat) (w : Nat) (s : List Cd × List Nat) (n : Nat) : wL wt w s (n + 1) = wL wt w s n ++ [((wt1 wt (itS w n s) : Nat) : Int)] := by
  unfold wL
  rw [List.range_succ, List.map_append]
  rfl
theorem wL_sum (wt : Cd → Nat) (w : Nat) (s : List Cd × List Nat) : ∀ n, (wL wt w s n).sum = ((wsum wt w s n : Nat) : Int)
  | 0 => rfl
  | n + 1 => by
    rw [wL_succ, List.sum_append, wL_sum wt w s n]
    show _ + ((_ : Int) + 0) = ((wsum wt w s n + wt1 wt (itS w n s) : Nat) : Int)
    omega
theorem wL_take (wt : Cd → Nat) (w : Nat) (s : List Cd × List Nat) {n m : Nat} (h : m ≤ n) : (wL wt w s n).take m = wL wt w s m := by
  unfold wL
  rw [← List.map_take, List.take_range, Nat.min_eq_left h]
theorem wL_drop (wt : Cd → Nat) (w : Nat) (s : List Cd × List Nat) {n m : Nat} (h : m ≤ n) : ((wL wt w s n).drop m).sum = ((wsum wt w s n - wsum wt w s m : Nat) : Int) := by
  have e := congrArg List.sum (List.take_append_drop m (wL wt w s n))
  rw [List.sum_append, wL_take wt w s h, wL_sum, wL_sum] at e
  have := wsum_mono (wt := wt) (w := w) (s := s) h
  omega
theorem div_nat {m j L : Nat} (h1 : j ≤ m) (h2 : j ≤ L) : (((m : Nat) : Int) - (j : Nat)) / (((L : Nat) : Int) - (j : Nat)) = (((m - j) / (L - j) : Nat) : Int) := by
  rw [show ((m : Nat) : Int) - (j : Nat) = ((m - j : Nat) : Int) by omega, show ((L : Nat) : Int) - (j : Nat) = ((L - j : Nat) : Int) by omega]
  rfl
theorem mod_nat {m j L : Nat} (h1 : j ≤ m) (h2 : j ≤ L) : (((m : Nat) : Int) - (j : Nat)) % (((L : Nat) : Int) - (j : Nat)) = (((m - j) % (L - j) : Nat) : Int) := by
  rw [show ((m : Nat) : Int) - (j : Nat) = ((m - j : Nat) : Int) by omega, show ((L : Nat) : Int) - (j : Nat) = ((L - j : Nat) : Int) by omega]
  rfl
end Dw
namespace L2
open PySem PySem.Spec PyProof.Rows
section
variable {X : Cx}
theorem ps_setDc {i : Nat} {y : Str} {py : Pos} {kx vx tg iter : Expr} {ifs : List Expr} {scope : Scope} {own : List (Str × Nat)} {pos spos : Pos} {wi : TI} {g : TG} {tt : TT} {tk tv : TE} (hc : X.calm = true) (hN : X.N.Nodup) (hy : X.N[i]? = some y)
    (hyl : X.env.scope.names.lookup y = some .local) (hsw : swapsWith (.DictComp kx vx [⟨tg, iter, ifs, 0⟩] scope pos) (some (.Name y py)) spos.line X.env = pure true) (hi : PI X tg iter wi) (ok : BlkOk X.N X.env.scope scope own)
    (hg : ∀ (z : Shared) (H : Hp) (C : Addr) (cl : List (Str × Addr)) (fp : List Addr), PG (X.blk z H scope (compEnvC scope cl C X.env) fp) tg g)
    (ht : ∀ (z : Shared) (H : Hp) (C : Addr) (cl : List (Str × Addr)) (fp : List Addr), PTs (X.blk z H scope (compEnvC scope cl C X.env) fp) ifs tt)
    (hk : ∀ (z : Shared) (H : Hp) (C : Addr) (cl : List (Str × Addr)) (fp : List Addr), PE (X.blk z H scope (compEnvC scope cl C X.env) fp) kx tk)
    (he : ∀ (z : Shared) (H : Hp) (C : Addr) (cl : List (Str × Addr)) (fp : List Addr), PE (X.blk z H scope (compEnvC scope cl C X.env) fp) vx tv) (hs : ∀ x, foldedSetIterable iter X.env x = pure x := by intro _; rfl) :
    PS X (.Assign [.Name y py] (.DictComp kx vx [⟨tg, iter, ifs, 0⟩] scope pos) spos) (tAsg (tDc wi g tt tk tv (own.map (·.2))) (gName i)) := by
  refine ⟨fun pins s σ H D I h0 => ?_⟩
  rw [exec_Assign_Name_used _ _ _ _ hsw]
  refine wpAny_bind (wpAny_standAt (wpAny_bind ?_))
  show wpAny _ X.A (do let _ ← comprehension (.DictComp kx vx [⟨tg, iter, ifs, 0⟩] scope pos) scope X.env (firstIterPos [⟨tg, iter, ifs, 0⟩] pos) newDict false (eval iter X.env) (some (assign (.Name y py) X.env))) _ _ s
  have h1 : tDc wi g tt tk tv (own.map (·.2)) σ H (fun x H1 => gName i x σ H1 D.nx) := h0
  refine wpAny_bind (thn (dc_core (Qf := fun _ s' => SP X pins D .next s') hc hN I hi ok hg ht hk he hs h1 fun L C s1 m1 H1 I1 q1 hn1 f => ?_) fun _ s1 hq => wpAny_pure (wpAny_pure hq))
  show wpAny _ _ (assign (.Name y py) X.env (.ref L)) _ _ _
  obtain ⟨e0, e1, e2, e3, e4, e5⟩ := f
  refine wpAny_assign_Name (store_ok2 (v := V.ref L) I1 hN hy (.inl hyl) rfl (fun s2 I2 ⟨a, sb, ha⟩ => ?_) (.inr hyl))
  have hCa : C ≠ a := ha.elim (fun z => by rw [z]; exact e1) fun z w => e4 y a z w.symm
  exact ⟨m1, hn1.sameBut sb hCa, fun h3 sb3 => ⟨_, H1, I2.turned (t' := s2.toks) (fun b o hb e => (sb3.2 b hb).trans e) e0 e1 e3 e4 e5, q1⟩⟩
theorem sw_trueD {kx vx : Expr} {gs : List Comprehension} {scope : Scope} {pos py : Pos} {y : Str} {l : Nat} {env : Env} (hk : env.scope.kind = .function) (hy : env.scope.names.lookup y = some .local) (hl : (py.line == pos.line) = true)
    (ha : (scope.names.any fun (n, k) => n == y && (k == .local || k == .cell)) = false) : swapsWith (.DictComp kx vx gs scope pos) (some (.Name y py)) l env = pure true := by
  have k1 : env.kindOf y = some .local := hy
  have k2 : env.blockKind = .function := by unfold Env.blockKind; rw [hk]; rfl
  unfold swapsWith
  simp only [k2, k1, ha, Expr.pos, hl]
  rfl
end
end L2
namespace Dw
open PySem L2 TL
section
variable {K : PySem.W.Frag} {Pm F : List Addr} {M : Mu} {Γ : Ga} {te : TE} {R : Dv → Mu → Prop}
/-- as wx_frz: what stands behind is what was there, with the arguments -/
theorem wx_frzP (h : WpX K Pm F te Γ M fun d M' => ∃ p ds M1, d = .adr p ∧ M' = (p, .lst ds) :: M1 ∧ (∀ a ∈ Pm, a ∈ ads M1) ∧ R (.lst ds) M1) : WpX K Pm F te Γ M R := fun H0 σ H S Q q =>
  h H0 σ H S _ fun v H1 d M1 ⟨p, ds, M2, e1, e2, hpm, hR⟩ S1 k1 r1 => by
    subst e1
    subst e2
    cases r1
    have hp : p ∉ Pm := fun z => (List.nodup_cons.mp S1.ms.nd).1 (hpm p z)
    obtain ⟨S2, k2, rp⟩ := S1.frz hp
    exact q _ H1 _ _ hR S2 (k1.trans k2) rp
/-- e.m(..), e gives an object that stays as it is -/
theorem wx_methX {C : Addr} {m : Str} {n : Nat} {Sp : DS} {E : XK} {to : TE} {tA : TA} (h : WpX K Pm F to Γ M fun d M1 => ∃ gs ds, d = .ins C gs ∧ gs.lookup m = none ∧ EvA K F M1 tA Γ ds ∧ ds.length + 1 = n ∧ Sp (.ins C gs :: ds) [] fun d' N => R d' (N ++ M1)) :
    WpX K Pm F (tMeth C m (spD K n Sp) [] E to tA) Γ M R := fun H0 σ H S Q q =>
  h H0 σ H S _ fun v H1 d M1 ⟨gs, ds, ed, hmn, ha, hn, hs⟩ S1 k1 r1 => by
    subst ed
    have r1' := r1
    cases r1 with
    | ins hx rx =>
    refine ⟨_, _, _, rfl, (hid_some hx).2, rx.none hmn, ha σ H1 S1.ms S1.s _ fun vs H2 e2 r2 => ?_⟩
    have S2 := S1.mono e2
    rw [List.append_nil]
    refine ⟨ads M1 ++ F, [], .ins C gs :: ds, _, ?_, ⟨fun q hq => (nomatch hq), List.nodup_nil, fun a ha => ?_, fun a _ hm => (nomatch hm)⟩, .cons (r1'.mono (hid_same e2)) r2, hs, fun v H3 d N M2 hR ha hn hf hm r3 => ?_⟩
    · show vs.length + 1 = n
      rw [r2.len]; exact hn
    · rcases List.mem_append.mp ha with z | z
      · obtain ⟨q', hq, e⟩ := List.mem_map.mp z
        rw [← e]
        exact (S2.ms.ok q' hq).there
      · exact S2.ms.ff a z
    · have e0 : M2 = [] := List.map_eq_nil_iff.mp ha
      subst e0
      rw [List.append_nil] at hR hm r3
      obtain ⟨S3, k3⟩ := S2.join (fun a o => hf a o (fun z => nomatch z)) hn hm
      refine q v H3 d _ hR S3 ((k1.trans (Kp.of e2)).trans k3) ?_
      have : ads (N ++ M1) ++ F = ads N ++ (ads M1 ++ F) := by simp only [ads, List.map_append, List.append_assoc]
      rw [this]
      exact r3
end
/-- the fields of an emission -/
def eF (w : Nat) (s : List Cd × List Nat) (n j : Nat) : List (Str × Dv) :=
  [("places", .lst ((plN w s 0 n).map plD)), ("before", iN (plN w s 0 j).length), ("again", iN ((plN w s 0 n).length - (plN w s 0 j).length)), ("cycle", iN (n - j))]
def S_Emission_init (a : Ads) : DS := fun ds M R => ∃ (p : Addr) (D : Dk) (s : List Cd × List Nat) (n j : Nat), ds = [.adr p, pD a D, stD s.1 s.2] ∧ M = [(p, .ins a.emission [])] ∧ D.ok ∧ StOk D s ∧ Cyc D.w s n j ∧ n ≤ 3000 ∧
  R .non [(p, .ins a.emission (eF D.w s n j))]
def S_Emission_find_place (a : Ads) : DS := fun ds M R => ∃ (D : Dk) (s : List Cd × List Nat) (n j k : Nat), ds = [.ins a.emission (eF D.w s n j), iN k] ∧ M = [] ∧ D.ok ∧ StOk D s ∧ Cyc D.w s n j ∧ n ≤ 3000 ∧
  k ≤ 1000000000000000000 ∧ R (opD (findP D.w s n j k)) []
def S_nth_emitted (a : Ads) : DS := fun ds M R => ∃ (x : Str) (D : Dk) (m : Nat) (b : Option (List Cd × List Nat)) (n j : Nat), ds = [.str x, iN m, oSt b] ∧ M = [] ∧ TxOk x D ∧ m ≤ 1000000000000000000 ∧ BegOk D b ∧ Cyc D.w (frSt D b) n j ∧ n ≤ 3000 ∧
  R (opD (findP D.w (frSt D b) n j m)) []
/-- what the steps emit, as data -/
def emL' (w : Nat) (s : List Cd × List Nat) (n : Nat) : List (List Dv) := (List.range n).map fun i => (em w s i).map iN
theorem emL'_succ (w : Nat) (s : List Cd × List Nat) (n : Nat) : emL' w s (n + 1) = emL' w s n ++ [(em w s n).map iN] := by
  unfold emL'
  rw [List.range_succ, List.map_append]
  rfl
theorem emL'_len (w : Nat) (s : List Cd × List Nat) (n : Nat) : (emL' w s n).length = n := by unfold emL'; rw [List.length_map, List.length_range]
theorem emL'_take (w : Nat) (s : List Cd × List Nat) {j n : Nat} (h : j ≤ n) : (emL' w s n).take j = emL' w s j := by
  unfold emL'
  rw [← List.map_take, List.take_range, Nat.min_eq_left h]
theorem flat_emL' (w : Nat) (s : List Cd × List Nat) : ∀ n, flatG (fun i d => .tup [iN i, d]) 0 (emL' w s n) = (plN w s 0 n).map plD
  | 0 => rfl
  | n + 1 => by
    rw [emL'_succ, flatG_snoc, flat_emL' w s n, emL'_len]
    show _ = (plN w s 0 n ++ _).map plD
    rw [List.map_append, List.map_map, List.map_map, Nat.zero_add]
    rfl
theorem emL'_sum {D : Dk} (hD : D.ok) {s : List Cd × List Nat} (h : StOk D s) : ∀ n, ((emL' D.w s n).map fun l => (l.length : Int)).sum = ((plN D.w s 0 n).length : Nat)
  | 0 => rfl
  | n + 1 => by
    rw [emL'_succ, List.map_append, List.sum_append, emL'_sum hD h n]
    show _ + (((em D.w s n).map iN).length + 0 : Int) = _
    have e : (plN D.w s 0 (n + 1)).length = (plN D.w s 0 n).length + (em D.w s (0 + n)).length := by
      show (plN D.w s 0 n ++ _).length = _
      rw [List.length_append, List.length_map]
    rw [e, List.length_map, Nat.zero_add]
    omega
theorem plN_cut {w : Nat} {s : List Cd × List Nat} {n j : Nat} (h : j ≤ n) : plN w s 0 n = plN w s 0 j ++ plN w s j (n - j) := by
  have := plN_app w s 0 j (n - j)
  rw [show j + (n - j) = n by omega, Nat.zero_add] at this
  exact this
/-- the value with a number far behind, by those of the cycle -/
theorem findP_far {w : Nat} {s : List Cd × List Nat} {n j N : Nat} (hj : j < n) (hN : (plN w s 0 n).length ≤ N) : findP w s n j N =
    if (plN w s j (n - j)).length = 0 then none
    else (plN w s j (n - j))[(N - (plN w s 0 j).length) % (plN w s j (n - j)).length]?.map fun p => (p.1 + (N - (plN w s 0 j).length) / (plN w s j (n - j)).length * (n - j), p.2) := by
  have e := plN_cut (w := w) (s := s) (Nat.le_of_lt hj)
  have el : (plN w s 0 n).length = (plN w s 0 j).length + (plN w s j (n - j)).length := by rw [e, List.length_append]
  have el' : (plN w s 0 n).length - (plN w s 0 j).length = (plN w s j (n - j)).length := by omega
  unfold findP
  rw [if_neg (by omega), el']
  congr 2
  rw [e, List.getElem?_append_right (by omega)]
  congr 1
  omega
theorem count_far {D : Dk} (hD : D.ok) {s : List Cd × List Nat} (hok : StOk D s) {n j N : Nat} (hC : Cyc D.w s n j) (hN : (plN D.w s 0 j).length ≤ N) (h0 : (plN D.w s j (n - j)).length ≠ 0) {p : Nat × Nat}
    (hp : (plN D.w s j (n - j))[(N - (plN D.w s 0 j).length) % (plN D.w s j (n - j)).length]? = some p) :
    wsum emits D.w s (p.1 + (N - (plN D.w s 0 j).length) / (plN D.w s j (n - j)).length * (n - j)) ≤ N ∧ N < wsum emits D.w s (p.1 + (N - (plN D.w s 0 j).length) / (plN D.w s j (n - j)).length * (n - j) + 1) := by
  have hlt := hC.lt
  obtain ⟨h1, h2, h3, h4⟩ := plN_at hD hok j hp
  have hA := plN_len hD hok j (n - j)
  rw [show j + (n - j) = n by omega] at hA
  have hB := plN_ge hD hok j
  rw [hB] at hp h3 h4 hN ⊢
  generalize hL : (plN D.w s j (n - j)).length = L at *
  have hdm := Nat.mod_add_div (N - wsum emits D.w s j) L
  generalize hq : (N - wsum emits D.w s j) / L = q at *
  generalize hr : (N - wsum emits D.w s j) % L = r at *
  have r1 := hC.rounds emits (p.1 - j) q
  have r2 := hC.rounds emits (p.1 + 1 - j) q
  rw [show j + (p.1 - j) = p.1 by omega] at r1
  rw [show j + (p.1 + 1 - j) = p.1 + 1 by omega] at r2
  have e : wsum emits D.w s n - wsum emits D.w s j = L := by omega
  rw [e] at r1 r2
  rw [show p.1 + q * (n - j) + 1 = p.1 + 1 + q * (n - j) by omega, r1, r2]
  rw [Nat.mul_comm] at hdm
  omega
theorem emL_eq (w : Nat) (s : List Cd × List Nat) (n : Nat) : emL w s n = (emL' w s n).map Dv.lst := by
  unfold emL emL'
  rw [List.map_map]
  rfl
theorem opD_isN (o : Option (Nat × Nat)) : (opD o).isN = o.isNone := by cases o <;> rfl
theorem eqd_pl {M : Mu} {n : Nat} (p : Nat × Nat) : Eqd M (n + 1) (plD p) (plD p) := by
  refine .tup rfl (Nat.le_of_ble_eq_true rfl) fun i x d hx hd => ?_
  rw [hx] at hd
  cases hd
  match i, hx with
  | 0, hx => cases hx; exact .int _
  | 1, hx => cases hx; exact .int _
theorem pl_pl {l : List (Nat × Nat)} : ∀ e ∈ l.map plD, Pl 1 e := fun e he => by
  obtain ⟨p, _, rfl⟩ := List.mem_map.mp he
  intro x hx
  rcases List.mem_cons.mp hx with rfl | hx
  · trivial
  · rw [List.mem_singleton.mp hx]; trivial
end Dw
namespace L2
open PySem PySem.Spec PyProof.Rows PpSet
section
variable {X : Cx}
/-- one more key -/
abbrev ksAdd (S : Key → Bool) (k : Key) : Key → Bool := fun j => S j || decide (j = k)
abbrev ksNum (S : Key → Bool) (n : Nat) (k : Key) : Nat := if S k = true then n else n + 1
/-- what a turn has to do with the set at D -/
def KsTurn (P : Program) (w : World) (D : Addr) (te : TE) (σ : L2.St) (H : Hp) (Nx : Hp → Prop) : Prop :=
  te σ H fun y H4 => ∃ (k : Key) (S : Key → Bool) (n : Nat), y = kV k ∧ H4 D = some (SetK P w D S n) ∧ n + 1 < scanBound ∧ Nx (upd H4 D (SetK P w D (ksAdd S k) (ksNum S n k)))
/-- {e for t in xs if ..}: D the new set -/
def tKs (P : Program) (w : World) (wi : TI) (g : TG) (tt : TT) (te : TE) (vs : List Nat) : TE := fun σ H Q => wi σ H fun J H1 => ∀ D, H1 D = none →
  ∃ W : Nat → Nat → Hp → Prop, (∃ m, W 0 m (upd H1 D (SetK P w D (fun _ => false) 0))) ∧
    ∀ i m Hi, W i m Hi → (J.stop i Hi ∧ Q (.ref D) Hi) ∨ (J.go i Hi ∧ ∃ Nx : Hp → Prop, (∀ Hn, Nx Hn → ∃ m', m' < m ∧ W (i + 1) m' Hn) ∧
      ∀ x Hx, J.yld i Hi x Hx → g x (wipe σ vs) Hx fun σ2 H2 => wipe σ2 vs = wipe σ vs ∧ tt σ2 H2 fun b H3 => if b = true then KsTurn P w D te σ2 H3 Nx else Nx H3)
abbrev freshSet (w : World) : Obj := { cls := .type "set", dict := none, data := .set #[] 0 (.fresh 0 0 (!w.params.followText "set-order")) }
theorem setOf_fresh (P : Program) (w : World) (h : Heap) : (h.push (freshSet w)).SetOf (mixKind P w) h.objs.size (fun _ => false) 0 :=
  ⟨freshSet w, #[], 0, _, Heap.get?_push_size _ rfl, ⟨rfl, rfl, rfl⟩, rfl, (fun e z => by simp at z), (fun k => by simp), by decide, rfl, rfl⟩
theorem ks_core {pins : List (Addr × Obj)} {s0 : Shared} {σ : L2.St} {H : Hp} {Q : VK} {elt tg iter : Expr} {ifs : List Expr} {sc : Scope} {own : List (Str × Nat)} {ps ps' : Pos} {wi : TI} {g : TG} {tt : TT} {te : TE} {use : Option (Value → Sem Unit)} {Z : Value → Shared → Prop}
    (cm : X.calm = true) (nd : X.N.Nodup) (I0 : Inv X pins σ H s0) (pi : PI X tg iter wi) (bo : BlkOk X.N X.env.scope sc own)
    (pg : ∀ (z : Shared) (Hb : Hp) (C : Addr) (cl : List (Str × Addr)) (fp : List Addr), PG (X.blk z Hb sc (compEnvC sc cl C X.env) fp) tg g)
    (pt : ∀ (z : Shared) (Hb : Hp) (C : Addr) (cl : List (Str × Addr)) (fp : List Addr), PTs (X.blk z Hb sc (compEnvC sc cl C X.env) fp) ifs tt)
    (pe : ∀ (z : Shared) (Hb : Hp) (C : Addr) (cl : List (Str × Addr)) (fp : List Addr), PE (X.blk z Hb sc (compEnvC sc cl C X.env) fp) elt te) (nf : ∀ x, foldedSetIterable iter X.env x = pure x)
    (ht : tKs X.prog X.w wi g tt te (own.map (·.2)) σ H Q)
    (fin : ∀ D C s' m H', Inv X pins σ H' s' → Q (.ref D) H' → s'.heap.Ns C m → FpOk X pins H' C → compPost (model X.prog X.w) X.A X.xe use Z (.ref D) C (.ok .next) s') :
    wpAny (model X.prog X.w) X.A (comprehension (.SetComp elt [⟨tg, iter, ifs, 0⟩] sc ps) sc X.env ps' (newSet (.type "set")) false (eval iter X.env) use) Z X.xe s0 := by
  have cells : ∀ y ∈ sc.names, y.2 = .free → ∃ c, X.env.cells.lookup y.1 = some c := fun y hy e => (bo.free y hy e).elim (fun k => I0.ok.has _ (.inl k)) (fun k => I0.ok.has _ (.inr k))
  refine wpAny_comprehension_free (use := use) rfl nf (closure_ok cells) bo.kind (fun y hy e => by rw [bo.uniq y hy, e]) (thn (pi.run pins s0 σ H _ I0 ht) fun xv z1 hz1 => thn hz1 fun itv z2 hz2 => ?_)
  obtain ⟨it, fp, tn, J, Ha, rfl, I2, T, at2, ex2, q⟩ := hz2
  refine PpSet.newSet_ok (newEnv_comp ?_)
  generalize eD : z2.heap.objs.size = D
  have freeD : Ha D = none := I2.hok.fresh (Nat.le_of_eq eD)
  obtain ⟨W, ⟨m0, w0⟩, go⟩ := q D freeD
  generalize ez3 : ({ z2 with heap := z2.heap.push (freshSet X.w) } : Shared) = z3
  have hz3 : z3.heap = z2.heap.push (freshSet X.w) := by rw [← ez3]
  generalize eHb : upd Ha D (SetK X.prog X.w D (fun _ => false) 0) = Hb
  have I3 : Inv X pins σ Hb z3 := by
    rw [← ez3, ← eHb]
    refine I2.laid (t' := z2.toks) (fun c o e => Heap.get?_push_of_some _ e) (Nat.le_of_eq eD) ?_
    rw [← eD]
    exact setK_new (setOf_fresh X.prog X.w z2.heap)
  have below : ∀ c ∈ fp, c < z2.heap.objs.size := fun c hc => by
    obtain ⟨o, e, _⟩ := T.obj _ _ at2 c hc
    exact Heap.lt_size e
  have ex3 : ∀ c ∈ fp, FpOk X pins Hb c ∧ c < z3.heap.objs.size := fun c hc => by
    have hl := below c hc
    refine ⟨⟨?_, (ex2 c hc).2⟩, by rw [hz3, Heap.size_push]; exact Nat.lt_succ_of_lt hl⟩
    rw [← eHb, upd_ne (by rw [← eD]; exact Nat.ne_of_lt hl)]
    exact (ex2 c hc).1
  have at3 : tn 0 z3.heap := T.keep _ _ _ at2 fun c _ o e => by rw [hz3]; exact Heap.get?_push_of_some _ e
  have I4 := block_start I3 bo nd ex3
  rw [eHb] at w0
  have pg := pg z3 Hb z3.heap.objs.size (cellsFrom (z3.heap.objs.size + 1) sc.names (cloFrom X.env.cells sc.names [])) fp
  have pt := pt z3 Hb z3.heap.objs.size (cellsFrom (z3.heap.objs.size + 1) sc.names (cloFrom X.env.cells sc.names [])) fp
  have pe := pe z3 Hb z3.heap.objs.size (cellsFrom (z3.heap.objs.size + 1) sc.names (cloFrom X.env.cells sc.names [])) fp
  have en : (({ z2 with heap := z2.heap.push (freshSet X.w) } : Shared).heap.objs.size) = z3.heap.objs.size := by rw [ez3]
  show codeAny _ _ (.compStart (.SetComp elt [⟨tg, iter, ifs, 0⟩] sc ps) 0 (.ref it) (.ref D) (compEnvC sc (cellsFrom (z3.heap.objs.size + 1) sc.names (cloFrom X.env.cells sc.names [])) z3.heap.objs.size X.env)) (compPost (model X.prog X.w) X.A X.xe use Z (.ref D) z3.heap.objs.size) { z3 with heap := pushCells (z3.heap.push { cls := .type "dict", data := .dict #[] }) sc.names }
  have none3 : ∀ c ∈ fp, Hb c = none := fun c hc => (ex3 c hc).1.1
  generalize ece : compEnvC sc (cellsFrom (z3.heap.objs.size + 1) sc.names (cloFrom X.env.cells sc.names [])) z3.heap.objs.size X.env = ce at I4 pg pt pe ⊢
  have loc : ce.locals = z3.heap.objs.size := by rw [← ece]; rfl
  generalize ez4 : ({ z3 with heap := pushCells (z3.heap.push { cls := .type "dict", data := .dict #[] }) sc.names } : Shared) = z4 at I4 ⊢
  have at4 : tn 0 z4.heap := T.keep _ _ _ at3 fun c _ o e => by rw [← ez4]; exact pushCells_keeps _ _ _ _ (Heap.get?_push_of_some _ e)
  have pinsOk : ∀ {σ1 : L2.St} {H1 : Hp} {s1 : Shared}, Inv (X.blk z3 Hb sc ce fp) [] σ1 H1 s1 → (∀ c ∈ fp, H1 c = none) → ∀ c ∈ fp, FpOk (X.blk z3 Hb sc ce fp) [] H1 c := fun I1 hn c hc =>
    ⟨hn c hc, (I1.ok.exf c hc).1, I1.ok.exfs c hc, .inl hc, fun x y e => (I1.ok.exf c hc).2 x y e, fun p hp => absurd (show p ∈ ([] : List (Addr × Obj)) ++ [] from hp) (by simp)⟩
  have loop : codeAny (model X.prog X.w) X.A (.compLoop (.SetComp elt [⟨tg, iter, ifs, 0⟩] sc ps) 0 (.ref it) (.ref D) ce) (compPost (model X.prog X.w) X.A X.xe use Z (.ref D) z3.heap.objs.size) z4 := by
    refine PpSet.compLoopS_any (fun left st => ∃ i Hi, Inv (X.blk z3 Hb sc ce fp) [] (wipe σ (own.map (·.2))) Hi st ∧ tn i st.heap ∧ (∀ c ∈ fp, Hi c = none) ∧ W i left Hi) ?_ m0 ⟨0, Hb, I4, at4, none3, w0⟩
    rintro left z5 ⟨i, H5, I5, at5, none5, w5⟩
    rcases go i left H5 w5 with ⟨stop, qf⟩ | ⟨more, Nx, less, step⟩
    · refine thnF (T.done (X.blk z3 Hb sc ce fp) rfl rfl rfl cm i [] z5 _ H5 (fun _ _ => False) I5 (pinsOk I5 none5) at5 stop) fun r z6 ⟨er, I6⟩ => ?_
      subst er
      have Iout : Inv X pins σ H5 z6 := I3.call' (ch := fp) I6.os I6.base I6.hok I6.bare fun c hc => ⟨(ex3 c hc).1.2.2.2.1, (ex3 c hc).1.2.1, (ex3 c hc).1.2.2.2.2.1, (ex3 c hc).1.2.2.2.2.2⟩
      have hfree6 : H5 ce.locals = none := I6.free
      obtain ⟨m, hns, _⟩ := I6.loc
      have hns : z6.heap.Ns ce.locals m := hns
      rw [loc] at hns hfree6
      exact fin D z3.heap.objs.size z6 m H5 Iout qf hns (I3.fpOk (Nat.le_refl _) hfree6)
    · refine thnF (T.item (X.blk z3 Hb sc ce fp) rfl rfl rfl cm i [] z5 _ H5 (fun _ _ => False) I5 (pinsOk I5 none5) at5 more) fun r z6 ⟨u, er, h6⟩ => ?_
      subst er
      refine thnF h6 fun _ z7 ⟨x, H7, I7, rx, yx, at7, none7⟩ => ?_
      have Ipin := I7.pinned (pinsOk I7 none7) (T.obj _ _ at7)
      refine thnF (pg.run _ z7 _ H7 x u _ Ipin rx (step x H7 yx)) fun _ z8 ⟨σ8, H8, I8, ew, q8⟩ => thnF (pt.run _ z8 σ8 H8 _ I8 q8) fun b z9 ⟨H9, I9, q9⟩ => ?_
      have turnEnds : ∀ {st : Shared} {Hn : Hp}, Inv (X.blk z3 Hb sc ce fp) ([] ++ pinsAt fp z7.heap) σ8 Hn st → Nx Hn → ∃ m, m < left ∧ ∃ i Hi, Inv (X.blk z3 Hb sc ce fp) [] (wipe σ (own.map (·.2))) Hi st ∧ tn i st.heap ∧ (∀ c ∈ fp, Hi c = none) ∧ W i m Hi := fun {st Hn} In nx => by
        obtain ⟨m', hlt, wn⟩ := less Hn nx
        have held : ∀ c ∈ fp, ∀ o, z7.heap.get? c = some o → st.heap.get? c = some o ∧ Hn c = none := fun c hc o e =>
          let y := In.pin (c, o) (List.mem_append_right _ (List.mem_append_right _ (mem_pinsAt hc e)))
          ⟨y.1, y.2.1⟩
        refine ⟨m', hlt, i + 1, Hn, (In.unpinned (pins := [])).weak (by rw [← ew, wipe_length]) (fun j v e => (wipe_some (by rw [← ew] at e; exact e)).1), T.keep _ _ _ at7 fun c hc o e => (held c hc o e).1, fun c hc => ?_, wn⟩
        obtain ⟨o, e, _⟩ := T.obj _ _ at7 c hc
        exact (held c hc o e).2
      cases b with
      | false => exact turnEnds I9 q9
      | true =>
        have q9 : KsTurn X.prog X.w D te σ8 H9 Nx := q9
        show wpAny _ _ _ _ _ _
        refine thnF (pe.run _ z9 σ8 H9 _ I9 q9) fun v z10 ⟨y, H10, I10, ry, k, S, n, ey, hS, room, nx⟩ => ?_
        subst ey
        exact thnF (mt_saddK (X := X.blk z3 Hb sc ce fp) _ z10 σ8 H10 (.ref D) [kV k] (.ref D) [v] (fun _ Hn => Nx Hn) I10 rfl (.cons ry .nil) ⟨D, k, S, n, rfl, rfl, hS, room, nx⟩) fun _ z11 ⟨_, H11, I11, _, nx11⟩ => turnEnds I11 nx11
  exact PpSet.codeAny_compStart_set loop (T.self X.A 0 _ _ _ at4 loop)
theorem pe_ks {elt tg iter : Expr} {ifs : List Expr} {sc : Scope} {own : List (Str × Nat)} {ps : Pos} {wi : TI} {g : TG} {tt : TT} {te : TE} (cm : X.calm = true) (nd : X.N.Nodup) (pi : PI X tg iter wi) (bo : BlkOk X.N X.env.scope sc own)
    (pg : ∀ (z : Shared) (Hb : Hp) (C : Addr) (cl : List (Str × Addr)) (fp : List Addr), PG (X.blk z Hb sc (compEnvC sc cl C X.env) fp) tg g)
    (pt : ∀ (z : Shared) (Hb : Hp) (C : Addr) (cl : List (Str × Addr)) (fp : List Addr), PTs (X.blk z Hb sc (compEnvC sc cl C X.env) fp) ifs tt)
    (pe : ∀ (z : Shared) (Hb : Hp) (C : Addr) (cl : List (Str × Addr)) (fp : List Addr), PE (X.blk z Hb sc (compEnvC sc cl C X.env) fp) elt te) (nf : ∀ x, foldedSetIterable iter X.env x = pure x := by intro _; rfl) :
    PE X (.SetComp elt [⟨tg, iter, ifs, 0⟩] sc ps) (tKs X.prog X.w wi g tt te (own.map (·.2))) :=
  ⟨fun pins s0 σ H Q I h => by
    rw [PpSet.eval_SetComp]
    refine ks_core cm nd I pi bo pg pt pe nf h fun D C st m Hn In q hns fo => ⟨m, hns, fun h'' sb => ?_⟩
    obtain ⟨f0, f1, f2, f3, f4, f5⟩ := fo
    exact ⟨.ref D, Hn, In.turned (t' := st.toks) (fun c o hc e => (sb.2 c hc).trans e) f0 f1 f3 f4 f5, rfl, q⟩⟩
theorem ps_setKs {i : Nat} {y : Str} {py : Pos} {elt tg iter : Expr} {ifs : List Expr} {sc : Scope} {own : List (Str × Nat)} {ps sps : Pos} {wi : TI} {g : TG} {tt : TT} {te : TE} (cm : X.calm = true) (nd : X.N.Nodup) (hy : X.N[i]? = some y)
    (hyl : X.env.scope.names.lookup y = some .local) (sw : swapsWith (.SetComp elt [⟨tg, iter, ifs, 0⟩] sc ps) (some (.Name y py)) sps.line X.env = pure true) (pi : PI X tg iter wi) (bo : BlkOk X.N X.env.scope sc own)
    (pg : ∀ (z : Shared) (Hb : Hp) (C : Addr) (cl : List (Str × Addr)) (fp : List Addr), PG (X.blk z Hb sc (compEnvC sc cl C X.env) fp) tg g)
    (pt : ∀ (z : Shared) (Hb : Hp) (C : Addr) (cl : List (Str × Addr)) (fp : List Addr), PTs (X.blk z Hb sc (compEnvC sc cl C X.env) fp) ifs tt)
    (pe : ∀ (z : Shared) (Hb : Hp) (C : Addr) (cl : List (Str × Addr)) (fp : List Addr), PE (X.blk z Hb sc (compEnvC sc cl C X.env) fp) elt te) (nf : ∀ x, foldedSetIterable iter X.env x = pure x := by intro _; rfl) :
    PS X (.Assign [.Name y py] (.SetComp elt [⟨tg, iter, ifs, 0⟩] sc ps) sps) (tAsg (tKs X.prog X.w wi g tt te (own.map (·.2))) (gName i)) :=
  ⟨fun pins s0 σ H D I h0 => by
    rw [exec_Assign_Name_used _ _ _ _ sw]
    refine wpAny_bind (wpAny_standAt (wpAny_bind ?_))
    show wpAny _ X.A (do let _ ← comprehension (.SetComp elt [⟨tg, iter, ifs, 0⟩] sc ps) sc X.env (firstIterPos [⟨tg, iter, ifs, 0⟩] ps) (newSet (.type "set")) false (eval iter X.env) (some (assign (.Name y py) X.env))) _ _ s0
    have h1 : tKs X.prog X.w wi g tt te (own.map (·.2)) σ H (fun x Hx => gName i x σ Hx D.nx) := h0
    refine wpAny_bind (thn (ks_core (Z := fun _ st => SP X pins D .next st) cm nd I pi bo pg pt pe nf h1 fun L C st m Hn In q hns fo => ?_) fun _ st z => wpAny_pure (wpAny_pure z))
    obtain ⟨f0, f1, f2, f3, f4, f5⟩ := fo
    show wpAny _ _ (assign (.Name y py) X.env (.ref L)) _ _ _
    refine wpAny_assign_Name (store_ok2 (v := V.ref L) In nd hy (.inl hyl) rfl (fun s2 I2 ⟨a, sb, ha⟩ => ?_) (.inr hyl))
    have ca : C ≠ a := ha.elim (fun z => by rw [z]; exact f1) fun z r => f4 y a z r.symm
    exact ⟨m, hns.sameBut sb ca, fun h3 sb3 => ⟨_, Hn, I2.turned (t' := s2.toks) (fun c o hc e => (sb3.2 c hc).trans e) f0 f1 f3 f4 f5, q⟩⟩⟩
theorem sw_trueK {elt : Expr} {gs : List Comprehension} {sc : Scope} {ps py : Pos} {y : Str} {l : Nat} {env : Env} (hk : env.scope.kind = .function) (hy : env.scope.names.lookup y = some .local) (hl : (py.line == ps.line) = true)
    (ha : (sc.names.any fun (n, k) => n == y && (k == .local || k == .cell)) = false) : swapsWith (.SetComp elt gs sc ps) (some (.Name y py)) l env = pure true := by
  have e1 : env.kindOf y = some .local := hy
  have e2 : env.blockKind = .function := by unfold Env.blockKind; rw [hk]; rfl
  unfold swapsWith
  simp only [e2, e1, ha, Expr.pos, hl]
  rfl
end
end L2
namespace Dw
open PySem L2 TL
section
variable {K : PySem.W.Frag} {Pm F : List Addr} {M : Mu} {Γ : Ga} {te tl : TE} {x d : Dv} {R : Dv → Mu → Prop} {H0 H H' : Hp} {σ : L2.St} {Pr : PySem.Program} {w : PySem.World}
/-- the set of the keys so far, at an address that is new since H1 -/
structure Kss (K : PySem.W.Frag) (F : List Addr) (M : Mu) (Pr : PySem.Program) (w : PySem.World) (H1 : Hp) (Dl : Addr) (ks : List Key) (H' : Hp) : Prop where
  e : Same H1 H'
  l : ∃ S n, H' Dl = some (SetK Pr w Dl S n) ∧ n ≤ ks.length ∧ ∀ k, S k = true ↔ k ∈ ks
theorem Kss.keep {H1 : Hp} {Dl : Addr} {ks : List Key} (hD : H1 Dl = none) (c : Kss K F M Pr w H1 Dl ks H') : Same (hid (ads M ++ F) H1) (hid (ads M ++ Dl :: F) H') := fun a o q => by
  obtain ⟨out, z⟩ := hid_some q
  have ne : a ≠ Dl := ne_of_none z hD
  rw [hid_out (fun m => (List.mem_append.mp m).elim (fun m => out (List.mem_append_left _ m)) fun m => (List.mem_cons.mp m).elim ne fun m => out (List.mem_append_right _ m))]
  exact c.e a o z
theorem Kss.ms {H1 : Hp} {Dl : Addr} {ks : List Key} (hD : H1 Dl = none) (m : Ms K F M H1) (c : Kss K F M Pr w H1 Dl ks H') : Ms K (Dl :: F) M H' where
  ok := fun q hq => (m.ok q hq).keep (c.keep hD) fun o => c.e _ o
  nd := m.nd
  ff := fun a ha => (List.mem_cons.mp ha).elim (fun z => by obtain ⟨S, n, hx, _⟩ := c.l; rw [z]; exact ⟨_, hx⟩) fun z => by obtain ⟨o, q⟩ := m.ff a z; exact ⟨o, c.e _ _ q⟩
  ap := fun a ha hm => (List.mem_cons.mp ha).elim (fun z => m.fresh hD (List.mem_append_left _ (by rw [← z]; exact hm))) fun z => m.ap a z hm
/-- {e for x in xs} -/
theorem wx_ks {j : Nat} {ds : List Dv} {ks : List Key} (h : EvD K F M tl Γ (.lst ds)) (hz : ds.length ≤ 4000) (hlen : ks.length = ds.length)
    (hg : ∀ (i : Nat) e k, ds[i]? = some e → ks[i]? = some k → ∀ Dl, EvD K (Dl :: F) M te (Γ.set j (some e)) (dK k)) (k : ∀ p S n, p ∉ ads M ++ F → (∀ y, S y = true ↔ y ∈ ks) → R (.adr p) ((p, .kst Pr w S n) :: M)) :
    WpX K Pm F (tKs Pr w (iList K tl) (gName j) tYes te [j]) Γ M R := fun H0 σ H St Q q => h σ H St.ms St.s _ fun v H1 e1 r1 => by
  have S1 := St.mono e1
  have m1 := S1.ms
  have s1 := S1.s
  cases r1 with
  | lst hq rx =>
  rename_i a xs
  have hq' : SqL K (hid (ads M ++ F) H1) a xs := .inl (.inl hq)
  refine ⟨a, rfl, ⟨xs, (hid_sub _ _).seq hq'⟩, fun Dl hD => ?_⟩
  have hxl : xs.length = ds.length := rx.len
  refine ⟨fun i left Hi => left = xs.length - i ∧ i ≤ xs.length ∧ Kss K F M Pr w H1 Dl (ks.take i) Hi, ⟨xs.length, by omega, Nat.zero_le _, same_new hD, _, _, upd_same, Nat.le_refl 0, fun _ => by simp⟩, ?_⟩
  rintro i left Hi ⟨rfl, hi, c⟩
  have hs : SqL K Hi a xs := c.e.seq ((hid_sub _ _).seq hq')
  by_cases hlt : i < xs.length
  · refine .inr ⟨⟨xs, xs[i], hs, by simp [hlt]⟩, fun Hn => Kss K F M Pr w H1 Dl (ks.take (i + 1)) Hn, fun Hn z => ⟨xs.length - (i + 1), by omega, rfl, hlt, z⟩, fun y Hy hy => ?_⟩
    obtain ⟨rfl, hy⟩ := hy
    obtain ⟨e, he, re⟩ := rx.getV (hy xs hs)
    have hk : ks[i]? = some ks[i] := by simp [hlen, ← hxl, hlt]
    have m' := c.ms hD m1
    have s' : Sl K (ads M ++ Dl :: F) Hy ((wipe σ [j]).set j (some y)) (Γ.set j (some e)) := (s1.keep (c.keep hD)).own (re.mono (c.keep hD))
    refine ⟨wipe_one σ j y, et_yes _ Hy m' s' _ fun H3 e3 => ?_⟩
    obtain ⟨S, n, hS, hn, hm⟩ := c.l
    refine iteT (hg i e _ he hk Dl _ H3 (m'.mono e3) (s'.mono e3) _ fun u H4 e4 r4 => ?_)
    have e34 := e3.trans e4
    have hnl : (ks.take i).length ≤ 3999 := by rw [List.length_take]; omega
    refine ⟨ks[i], S, n, rp_key r4, e34 _ _ hS, Nat.lt_of_le_of_lt (Nat.succ_le_succ (Nat.le_trans hn hnl)) (by decide), fun b o z => ?_, _, _, upd_same, ?_, fun b => ?_⟩
    · rw [upd_ne (ne_of_none z hD)]
      exact e34 _ _ (c.e b o z)
    · rw [List.take_succ, hk, List.length_append]
      show (if S ks[i] = true then n else n + 1) ≤ _ + 1
      split <;> omega
    · show (S b || decide (b = ks[i])) = true ↔ _
      rw [List.take_succ, hk, List.mem_append, Bool.or_eq_true, decide_eq_true_iff, hm b]
      exact or_congr Iff.rfl (by simp)
  · refine .inl ⟨⟨xs, hs, by omega⟩, ?_⟩
    have ei : i = ks.length := by omega
    rw [ei, List.take_length] at c
    obtain ⟨S, n, hS, _, hm⟩ := c.l
    obtain ⟨S2, k2⟩ := S1.newG (m := .kst Pr w S n) hD c.e hS
    exact q _ _ _ _ (k Dl S n (m1.fresh hD) hm) S2 ((Kp.of e1).trans k2) (.adr Dl)
theorem od_ninK {p : Addr} {i n : Nat} {S : Key → Bool} {k : Key} (hi : M[i]? = some (p, .kst Pr w S n)) : OpD K F M (rSInK Pr w true) (dK k) (.adr p) (.bl (!S k)) := fun v u H m r1 r2 Q q => by
  cases r2
  exact ⟨k, p, S, n, rp_key r1, rfl, m.ok _ (List.mem_of_getElem? hi), q _ H (Same.refl H) (.bl _)⟩
theorem od_inK {p : Addr} {i n : Nat} {S : Key → Bool} {k : Key} (hi : M[i]? = some (p, .kst Pr w S n)) : OpD K F M (rSInK Pr w false) (dK k) (.adr p) (.bl (S k)) := fun v u H m r1 r2 Q q => by
  cases r2
  exact ⟨k, p, S, n, rp_key r1, rfl, m.ok _ (List.mem_of_getElem? hi), q _ H (Same.refl H) (.bl _)⟩
end
end Dw
namespace L2
open PySem PySem.Spec
theorem op_inK {X : Cx} {P : Program} {w : World} (hp : X.prog = P) (hw : X.w = w) : OpR X (compareOp .In) (rSInK P w false) := by
  subst hp
  subst hw
  exact or_sinK
theorem op_ninK {X : Cx} {P : Program} {w : World} (hp : X.prog = P) (hw : X.w = w) : OpR X (compareOp .NotIn) (rSInK P w true) := by
  subst hp
  subst hw
  exact or_snotinK
end L2
namespace Dw
open PySem L2 TL
section
variable {K : PySem.W.Frag} {F : List Addr} {M : Mu}
theorem od_ninL {s : Str} {ys : List Str} : OpD K F M (rNinG K) (.str s) (.lst (ys.map Dv.str)) (.bl (!decide (s ∈ ys))) := fun v w H m r1 r2 Q q => by
  cases r1
  cases r2 with
  | lst h2 r2 =>
    have e := RpL.strs_of r2
    subst e
    refine .inl ⟨_, _, rfl, .inl (.inl (.inl (hid_some h2).2)), rfl, ?_, ?_⟩
    · rw [List.all_map]
      exact List.all_eq_true.mpr fun _ _ => rfl
    · rw [inV_strs]
      exact q _ H (Same.refl H) (.bl _)
end
def S_find_cycle (a : Ads) : DS := fun ds M R => ∃ (x : Str) (D : Dk) (b : Option (List Cd × List Nat)) (n j : Nat), ds = [.str x, oSt b] ∧ M = [] ∧ TxOk x D ∧ BegOk D b ∧ Cyc D.w (frSt D b) n j ∧ n ≤ 3000 ∧ R (.tup [iN j, iN (n - j)]) []
def S_state_far (a : Ads) : DS := fun ds M R => ∃ (x : Str) (D : Dk) (m : Nat) (b : Option (List Cd × List Nat)), ds = [.str x, iN m, oSt b] ∧ M = [] ∧ TxOk x D ∧ m ≤ 1000000000000000000 ∧ BegOk D b ∧ Far D (frSt D b) m ∧
  R (stD (itS D.w m (frSt D b)).1 (itS D.w m (frSt D b)).2) []
/-- the names of the cards on top, in the first n states -/
def nmL (w : Nat) (s : List Cd × List Nat) (n : Nat) : List Str := (List.range n).map fun i => nm0 (itS w i s)
theorem nmL_len (w : Nat) (s : List Cd × List Nat) (n : Nat) : (nmL w s n).length = n := by unfold nmL; rw [List.length_map, List.length_range]
theorem nmL_at {w : Nat} {s : List Cd × List Nat} {n i : Nat} (h : i < n) : (nmL w s n)[i]? = some (nm0 (itS w i s)) := by
  unfold nmL
  rw [List.getElem?_map, List.getElem?_range h]
  rfl
/-- the cards that are never on top -/
def idL (D : Dk) (s : List Cd × List Nat) (n : Nat) : List Dv := (D.cs.filter fun c => !decide (c.nm ∈ nmL D.w s n)).map nmD
def S_idle_cards (a : Ads) : DS := fun ds M R => ∃ (x : Str) (D : Dk) (b : Option (List Cd × List Nat)) (n j : Nat), ds = [.str x, oSt b] ∧ M = [] ∧ TxOk x D ∧ BegOk D b ∧ Cyc D.w (frSt D b) n j ∧ n ≤ 3000 ∧
  ∀ q, R (.adr q) [(q, .lst (idL D (frSt D b) n))]
def kId (ns : List Str) (d : Dv) : Bool := match d with
  | .str x => !decide (x ∈ ns)
  | _ => false
theorem kId_list (ns : List Str) : ∀ cs : List Cd, ((cs.map nmD).filter (kId ns)).map id = (cs.filter fun c => !decide (c.nm ∈ ns)).map nmD
  | [] => rfl
  | c :: cs => by
    have ih := kId_list ns cs
    rw [List.map_id] at ih ⊢
    rw [List.map_cons]
    by_cases h : c.nm ∈ ns
    · have e : (!decide (c.nm ∈ ns)) = false := by rw [decide_eq_true h]; rfl
      rw [List.filter_cons_of_neg (show ¬ kId ns (nmD c) = true from fun z => by
        have z : (!decide (c.nm ∈ ns)) = true := z
        rw [e] at z; cases z), List.filter_cons_of_neg (by rw [e]; exact Bool.false_ne_true)]
      exact ih
    · have e : (!decide (c.nm ∈ ns)) = true := by rw [decide_eq_false h]; rfl
      rw [List.filter_cons_of_pos (show kId ns (nmD c) = true from e), List.filter_cons_of_pos (p := fun c : Cd => !decide (c.nm ∈ ns)) e, List.map_cons, ih]
theorem mem_set_lt {w : Nat} {v : List Nat} {r y : Nat} (h : ∀ x ∈ v, x < w) (hy : y < w) : ∀ x ∈ v.set r y, x < w := fun x hx => by
  rcases List.mem_or_eq_of_mem_set hx with z | z
  · exact h x z
  · rw [z]; exact hy
theorem getD_lt {w : Nat} {v : List Nat} (h : ∀ x ∈ v, x < w) (hw : 0 < w) (r : Nat) : v.getD r 0 < w := by
  rw [List.getD_eq_getElem?_getD]
  cases e : v[r]? with
  | none => exact hw
  | some x => exact h x (List.mem_of_getElem? e)
theorem actV_lt {w : Nat} (hw : 0 < w) {v : List Nat} (h : ∀ x ∈ v, x < w) (c : Ac) : ∀ x ∈ actV w v c, x < w := by
  cases c with
  | add r n => exact mem_set_lt h (Nat.mod_lt _ hw)
  | copy r s => exact mem_set_lt h (getD_lt h hw s)
  | swap r s => exact mem_set_lt (mem_set_lt h (getD_lt h hw s)) (getD_lt h hw r)
  | emr r => exact h
  | emn n => exact h
theorem runV_lt {w : Nat} (hw : 0 < w) (acs : List Ac) {v : List Nat} (h : ∀ x ∈ v, x < w) : ∀ x ∈ (runV w acs v).1, x < w := by
  have key : ∀ (acs : List Ac) (p : List Nat × List Nat), (∀ x ∈ p.1, x < w) → ∀ x ∈ (acs.foldl (fun p c => (actV w p.1 c, p.2 ++ emV p.1 c)) p).1, x < w := fun acs => by
    induction acs with
    | nil => intro p hp; exact hp
    | cons c acs ih => intro p hp; exact ih _ (actV_lt hw hp c)
  exact key acs (v, []) h
theorem itS_lt {D : Dk} (hD : D.ok) {s : List Cd × List Nat} (h : ∀ x ∈ s.2, x < D.w) : ∀ n, ∀ x ∈ (itS D.w n s).2, x < D.w
  | 0 => h
  | n + 1 => by
    have ih := itS_lt hD h n
    show ∀ x ∈ (stepO D.w (itS D.w n s)).1.2, x < D.w
    generalize itS D.w n s = t at ih
    obtain ⟨o, v⟩ := t
    have hw := hD.lo
    cases o with
    | nil => exact ih
    | cons c r => exact runV_lt (by omega) c.ac ih
theorem mod_ne {L b i k : Nat} (hb : b < L) (hik : i < k) (hk : k < L) : (b + i) % L ≠ (b + k) % L := by
  have e : ∀ x, x < L → (b + x) % L = if b + x < L then b + x else b + x - L := fun x hx => by
    by_cases h : b + x < L
    · rw [if_pos h, Nat.mod_eq_of_lt h]
    · rw [if_neg h, Nat.mod_eq_sub_mod (by omega), Nat.mod_eq_of_lt (by omega)]
  rw [e i (by omega), e k hk]
  split <;> split <;> omega
/-- from a state of the cycle on -/
theorem Cyc.inside {w : Nat} {s : List Cd × List Nat} {n j : Nat} (h : Cyc w s n j) {b : Nat} (hb : b < n - j) : Cyc w (itS w (j + b) s) (n - j) 0 := by
  have hl := h.lt
  refine ⟨by omega, ?_, fun i k h1 h2 e => ?_⟩
  · rw [← itS_add, show itS w 0 (itS w (j + b) s) = itS w (j + b) s from rfl]
    have := h.wrap b 1
    rw [Nat.one_mul] at this
    exact this
  · rw [← itS_add, ← itS_add, h.far (m := j + b + i) (by omega), h.far (m := j + b + k) (by omega)] at e
    have hne := mod_ne hb h1 h2
    rw [show j + b + i - j = b + i by omega, show j + b + k - j = b + k by omega] at e
    have l1 := Nat.mod_lt (b + i) (y := n - j) (by omega)
    have l2 := Nat.mod_lt (b + k) (y := n - j) (by omega)
    rcases Nat.lt_trichotomy ((b + i) % (n - j)) ((b + k) % (n - j)) with z | z | z
    · exact h.df _ _ (by omega) (by omega) e
    · exact hne z
    · exact h.df _ _ (by omega) (by omega) e.symm
theorem begOk_it {D : Dk} (hD : D.ok) (m : Nat) : BegOk D (some (itS D.w m (st0 D))) := fun o v e => by
  have h := (st0_ok D).its m
  have hl := itS_lt hD (s := st0 D) (fun x hx => by
    have hw := hD.lo
    have : x = 0 := by simp [st0] at hx; exact hx
    omega) m
  rw [Option.some.inj e] at h hl
  exact ⟨h.pm, h.ln, hl⟩
def kIe (ns : List Str) (d : Dv) : Bool := match d with
  | .tup (.str x :: _) => !decide (x ∈ ns)
  | _ => false
def gHd (d : Dv) : Dv := match d with
  | .tup (x :: _) => x
  | _ => .non
theorem kIe_list (ns : List Str) : ∀ cs : List Cd, ((cs.map eC).filter (kIe ns)).map gHd = (cs.filter fun c => !decide (c.nm ∈ ns)).map nmD
  | [] => rfl
  | c :: cs => by
    have ih := kIe_list ns cs
    rw [List.map_cons]
    by_cases h : c.nm ∈ ns
    · have e : (!decide (c.nm ∈ ns)) = false := by rw [decide_eq_true h]; rfl
      rw [List.filter_cons_of_neg (show ¬ kIe ns (eC c) = true from fun z => by
        have z : (!decide (c.nm ∈ ns)) = true := z
        rw [e] at z; cases z), List.filter_cons_of_neg (by rw [e]; exact Bool.false_ne_true)]
      exact ih
    · have e : (!decide (c.nm ∈ ns)) = true := by rw [decide_eq_false h]; rfl
      rw [List.filter_cons_of_pos (show kIe ns (eC c) = true from e), List.filter_cons_of_pos (p := fun c : Cd => !decide (c.nm ∈ ns)) e, List.map_cons, List.map_cons, ih]
      rfl
theorem idL_len (D : Dk) (s : List Cd × List Nat) (n : Nat) : (idL D s n).length ≤ D.cs.length := by
  unfold idL
  rw [List.length_map]
  exact List.length_filter_le ..
end Dw
namespace Dw
open PySem L2 TL
section
variable {K : PySem.W.Frag} {Pm F : List Addr} {M : Mu} {Γ : Ga} {te tk tv tl to ti : TE} {x d : Dv} {R : Dv → Mu → Prop} {H0 H H' : Hp} {σ : L2.St} {Pd : Po} {ts : TS} {N : Ga → Mu → Prop}
/-- {k: v for x in a tuple}: a dict that may be changed -/
theorem wx_dcT {j : Nat} {ds : List Dv} {kz : List (Key × Dv)} (h : EvD K F M tl Γ (.tup ds)) (hz : ds.length ≤ 60000) (hlen : kz.length = ds.length) (hnd : (kz.map (·.1)).Nodup)
    (hg : ∀ (i : Nat) e r, ds[i]? = some e → kz[i]? = some r → ∀ Dl, EvD K (Dl :: F) M tk (Γ.set j (some e)) (dK r.1) ∧ EvD K (Dl :: F) M tv (Γ.set j (some e)) r.2) (k : ∀ p, p ∉ ads M ++ F → R (.adr p) ((p, .kd kz) :: M)) :
    WpX K Pm F (tDc (iTup K tl) (gName j) tYes tk tv [j]) Γ M R := fun H0 σ H St Q q => h σ H St.ms St.s _ fun v H1 e1 r1 => by
  have S1 := St.mono e1
  have m1 := S1.ms
  have s1 := S1.s
  cases r1 with
  | tup hq rx =>
  rename_i a xs
  have hq1 : SqT K H1 a xs := sqT_mono (hid_sub _ _) hq.1
  refine ⟨a, rfl, ⟨xs, hq1⟩, fun Dl hD => ?_⟩
  have hxl : xs.length = ds.length := rx.len
  refine ⟨fun i left Hi => left = xs.length - i ∧ i ≤ xs.length ∧ Dcs K F M H1 Dl (kz.take i) Hi, ⟨xs.length, by omega, Nat.zero_le _, same_new hD, [], upd_same, .nil⟩, ?_⟩
  rintro i left Hi ⟨rfl, hi, c⟩
  have hs : SqT K Hi a xs := sqT_mono c.e hq1
  by_cases hlt : i < xs.length
  · refine .inr ⟨⟨xs, xs[i], hs, by simp [hlt]⟩, fun Hn => Dcs K F M H1 Dl (kz.take (i + 1)) Hn, fun Hn z => ⟨xs.length - (i + 1), by omega, rfl, hlt, z⟩, fun y Hy hy => ?_⟩
    obtain ⟨rfl, hy⟩ := hy
    obtain ⟨e, he, re⟩ := rx.getV (hy xs hs)
    have hr : kz[i]? = some kz[i] := by simp [hlen, ← hxl, hlt]
    obtain ⟨h1, h2⟩ := hg i e _ he hr Dl
    refine ⟨wipe_one σ j y, ?_⟩
    have hn : kz[i].1 ∉ (kz.take i).map (·.1) := fun hm => by
      have hsp : kz = kz.take i ++ (kz[i] :: kz.drop (i + 1)) := by rw [← List.drop_eq_getElem_cons (by omega), List.take_append_drop]
      have nd : ((kz.take i ++ (kz[i] :: kz.drop (i + 1))).map (·.1)).Nodup := by rw [← hsp]; exact hnd
      rw [List.map_append, List.map_cons] at nd
      exact (List.nodup_append.mp nd).2.2 _ hm _ (List.mem_cons_self ..) rfl
    have ht : kz.take (i + 1) = kz.take i ++ [(kz[i].1, kz[i].2)] := by rw [List.take_succ, hr]; rfl
    rw [ht]
    exact c.turn hD m1 s1 re (by rw [List.length_take]; omega) h1 h2 hn
  · refine .inl ⟨⟨xs, hs, by omega⟩, ?_⟩
    have ei : i = kz.length := by omega
    rw [ei, List.take_length] at c
    obtain ⟨ys, hy, ry⟩ := c.l
    obtain ⟨S2, k2⟩ := S1.newG (m := .kd kz) hD c.e ⟨ys, hy, ry⟩
    exact q _ _ _ _ (k Dl (m1.fresh hD)) S2 ((Kp.of e1).trans k2) (.adr Dl)
theorem set_same' {σ : L2.St} {i : Nat} {v : V} (e : σ[i]? = some (some v)) : σ.set i (some v) = σ := by
  apply List.ext_getElem?
  intro m
  rw [List.getElem?_set]
  split
  · rename_i h
    subst h
    rw [if_pos (List.getElem?_eq_some_iff.mp e).1, e]
  · rfl
/-- the value of a key that is there -/
def setKd (kz : List (Key × Dv)) (k : Key) (d : Dv) : List (Key × Dv) := kz.map fun e => if e.1 = k then (e.1, d) else e
theorem RpK.put {k : Key} {v : V} {d : Dv} (rv : Rp K H v d) : ∀ {xs : List (Key × V)} {kz : List (Key × Dv)}, RpK K H xs kz → RpK K H (xs.map fun e => if e.1 = k then (e.1, v) else e) (setKd kz k d)
  | _, _, .nil => .nil
  | _, _, .cons (f := f) r1 r2 => by
    have ih := RpK.put (k := k) rv r2
    unfold setKd at ih ⊢
    rw [List.map_cons, List.map_cons]
    by_cases h : f = k
    · rw [if_pos h, if_pos h]
      exact .cons rv ih
    · rw [if_neg h, if_neg h]
      exact .cons r1 ih
theorem wg_subK {p : Addr} {i : Nat} {k : Key} {kz : List (Key × Dv)} (ho : EvD K F M to Γ (.adr p)) (hi : M[i]? = some (p, .kd kz)) (hj : EvD K F M ti Γ (dK k)) (hk : k ∈ kz.map (·.1)) (hz : kz.length < 100000) (kn : N Γ (M.set i (p, .kd (setKd kz k d)))) :
    WpG K Pm F (gSub to ti rSetD) d Γ M N := fun H0 σ H v S r1 Q q =>
  ho σ H S.ms S.s _ fun u H2 e2 r2 => by
      cases r2
      refine hj σ H2 (S.mono e2).ms (S.mono e2).s _ fun y H3 e3 r3 => ?_
      have S3 := (S.mono e2).mono e3
      obtain ⟨xs, hx, rx⟩ := S3.ms.ok _ (List.mem_of_getElem? hi)
      have r1' : Rp K (hid (ads M ++ F) H3) v d := (r1.mono (Kp.of e2)).mono (Kp.of e3)
      have hany : (xs.any fun e => decide (e.1 = k)) = true := by
        have : xs.map (·.1) = kz.map (·.1) := rx.keys
        rw [← this] at hk
        obtain ⟨e, he, z⟩ := List.mem_map.mp hk
        exact List.any_eq_true.mpr ⟨e, he, decide_eq_true z⟩
      have eput : putK xs k v = xs.map fun e => if e.1 = k then (e.1, v) else e := if_pos hany
      refine ⟨p, _, rfl, .inl ⟨xs, k, hx, rp_key r3, by rw [rx.len]; exact sz_lt hz, rfl⟩, ?_⟩
      have hp : p ∈ ads M ++ F := List.mem_append_left _ (List.mem_map.mpr ⟨_, List.mem_of_getElem? hi, rfl⟩)
      obtain ⟨S4, k4⟩ := S3.upd1 (m' := .kd (setKd kz k d)) (H' := upd H3 p (.dK (putK xs k v))) hi (fun a o ne e => by rw [upd_ne ne]; exact e)
        ⟨_, upd_same, by rw [hid_upd hp, eput]; exact RpK.put r1' rx⟩
      exact q _ _ _ _ kn S4 (((Kp.of e2).trans (Kp.of e3)).trans k4)
theorem Stt.frzK {p : Addr} {kz : List (Key × Dv)} (S : Stt K Pm F ((p, .kd kz) :: M) H0 H σ Γ) : Stt K Pm F M H0 H σ Γ ∧ Kp F ((p, .kd kz) :: M) H M H ∧ Rp K (hid (ads M ++ F) H) (.ref p) (.dic kz) := by
  obtain ⟨S2, k2⟩ := S.drp
  have hp : p ∉ ads M ++ F := fun m => (List.mem_append.mp m).elim (List.nodup_cons.mp S.ms.nd).1 fun m => S.ms.ap p m (List.mem_cons_self ..)
  obtain ⟨xs, h1, r⟩ := S.ms.ok _ (List.mem_cons_self ..)
  exact ⟨S2, k2, .dic (by rw [hid_out hp]; exact h1) (RpK.mono k2 r)⟩
/-- ahead of a statement: the dict in slot i is changed no more -/
theorem ws_frzK {p : Addr} {kz : List (Key × Dv)} (i : Nat) (hi : Γ[i]? = some (some (.adr p))) (h : WpS K Pm F ts (Γ.set i (some (.dic kz))) M Pd) : WpS K Pm F ts Γ ((p, .kd kz) :: M) Pd := fun H0 σ H D S n r b c => by
  obtain ⟨S1, k1, rp⟩ := S.frzK
  obtain ⟨v, e, rv⟩ := S.s.sl i _ hi
  cases rv
  have S2 := S1.set i rp
  rw [set_same' e] at S2
  exact h H0 σ H D S2 (fun σ2 H2 Γ2 M2 q2 T k2 => n σ2 H2 Γ2 M2 q2 T (k1.trans k2)) (fun v σ2 H2 Γ2 d M2 q2 T k2 => r v σ2 H2 Γ2 d M2 q2 T (k1.trans k2))
    (fun σ2 H2 Γ2 M2 q2 T k2 => b σ2 H2 Γ2 M2 q2 T (k1.trans k2)) (fun σ2 H2 Γ2 M2 q2 T k2 => c σ2 H2 Γ2 M2 q2 T (k1.trans k2))
end
def wtN (x : Str) (c : Cd) : Nat := if c.nm = x then 1 else 0
def S_check_card (a : Ads) : DS := fun ds M R => ∃ (D : Dk) (c : Cd), ds = [pD a D, .str c.nm] ∧ M = [] ∧ c ∈ D.cs ∧ R .non []
def S_count_acts (a : Ads) : DS := fun ds M R => ∃ (x : Str) (D : Dk) (c : Cd) (m : Nat) (b : Option (List Cd × List Nat)), ds = [.str x, .str c.nm, iN m, oSt b] ∧ M = [] ∧ TxOk x D ∧ c ∈ D.cs ∧ m ≤ 1000000000000000000 ∧ BegOk D b ∧ Far D (frSt D b) m ∧
  R (iN (wsum (wtN c.nm) D.w (frSt D b) m)) []
theorem setKd_wtN (x : Str) : ∀ cs : List Cd, setKd (cs.map fun e => ((.inr e.nm : Key), Dv.int 0)) (.inr x) (.int 1) = cs.map fun e => ((.inr e.nm : Key), iN (wtN x e))
  | [] => rfl
  | e :: cs => by
    have ih := setKd_wtN x cs
    unfold setKd at ih ⊢
    rw [List.map_cons, List.map_cons, List.map_cons, ih]
    congr 1
    show (if (Sum.inr e.nm : Key) = .inr x then ((Sum.inr e.nm : Key), Dv.int 1) else (.inr e.nm, .int 0)) = _
    unfold wtN
    by_cases h : e.nm = x
    · rw [if_pos (by rw [h]), if_pos h]; rfl
    · rw [if_neg (fun z => h (Sum.inr.inj z)), if_neg h]; rfl
def ovD : Option (Nat × Nat) → Dv
  | none => .non
  | some p => iN p.2
def S_Emission_find_value (a : Ads) : DS := fun ds M R => ∃ (D : Dk) (s : List Cd × List Nat) (n j k : Nat), ds = [.ins a.emission (eF D.w s n j), iN k] ∧ M = [] ∧ D.ok ∧ StOk D s ∧ Cyc D.w s n j ∧ n ≤ 3000 ∧
  k ≤ 1000000000000000000 ∧ R (ovD (findP D.w s n j k)) []
/-- the first m values -/
def fvL (w : Nat) (s : List Cd × List Nat) (n j m : Nat) : List Dv := ((List.range m).map fun k => ovD (findP w s n j k)).filter fun d => !d.isN
def S_first_emitted (a : Ads) : DS := fun ds M R => ∃ (x : Str) (D : Dk) (m : Nat) (b : Option (List Cd × List Nat)) (n j : Nat), ds = [.str x, iN m, oSt b] ∧ M = [] ∧ TxOk x D ∧ m ≤ 500 ∧ BegOk D b ∧ Cyc D.w (frSt D b) n j ∧ n ≤ 3000 ∧
  ∀ q, R (.adr q) [(q, .lst (fvL D.w (frSt D b) n j m))]
end Dw
namespace Dw
open PySem L2 TL
theorem wsum_em {D : Dk} (hD : D.ok) {s : List Cd × List Nat} (h : StOk D s) (i : Nat) : wsum emits D.w s (i + 1) = wsum emits D.w s i + (em D.w s i).length := by
  rw [em_len hD h]
  rfl
/-- where a value stands -/
theorem plN_iff {D : Dk} (hD : D.ok) {s : List Cd × List Nat} (h : StOk D s) : ∀ (t k : Nat) (p : Nat × Nat), (plN D.w s 0 t)[k]? = some p ↔ p.1 < t ∧ wsum emits D.w s p.1 ≤ k ∧ (em D.w s p.1)[k - wsum emits D.w s p.1]? = some p.2
  | 0, k, p => by
    constructor
    · intro e; simp [plN] at e
    · intro e; omega
  | t + 1, k, p => by
    have ih := plN_iff hD h t k p
    have hl := plN_ge hD h t
    have hw := wsum_em hD h t
    have eq : plN D.w s 0 (t + 1) = plN D.w s 0 t ++ (em D.w s t).map fun v => (t, v) := by
      show plN D.w s 0 t ++ (em D.w s (0 + t)).map (fun v => (0 + t, v)) = _
      rw [Nat.zero_add]
    rw [eq]
    by_cases hk : k < (plN D.w s 0 t).length
    · rw [List.getElem?_append_left hk, ih]
      constructor
      · rintro ⟨h1, h2, h3⟩
        exact ⟨by omega, h2, h3⟩
      · rintro ⟨h1, h2, h3⟩
        refine ⟨?_, h2, h3⟩
        by_cases e : p.1 = t
        · rw [e] at h2
          omega
        · omega
    · rw [List.getElem?_append_right (by omega), List.getElem?_map, hl]
      constructor
      · intro e
        cases hv : (em D.w s t)[k - wsum emits D.w s t]? with
        | none => rw [hv] at e; cases e
        | some v =>
          rw [hv] at e
          cases e
          exact ⟨Nat.lt_succ_self t, by show wsum emits D.w s t ≤ k; omega, hv⟩
      · rintro ⟨h1, h2, h3⟩
        have e : p.1 = t := by
          have lt := (List.getElem?_eq_some_iff.mp h3).1
          have hw2 := wsum_em hD h p.1
          by_cases e : p.1 = t
          · exact e
          · have := wsum_mono (wt := emits) (w := D.w) (s := s) (show p.1 + 1 ≤ t by omega)
            omega
        rw [e] at h3
        rw [h3]
        show some (t, p.2) = some p
        rw [← e]
theorem divmod_of {x r q L : Nat} (h : x = r + q * L) (hr : r < L) : x % L = r ∧ x / L = q := by
  have hL : 0 < L := by omega
  rw [h]
  exact ⟨by rw [Nat.add_mul_mod_self_right, Nat.mod_eq_of_lt hr], by rw [Nat.add_mul_div_right _ _ hL, Nat.div_eq_of_lt hr, Nat.zero_add]⟩
/-- the program's way to a value finds it where it stands -/
theorem findP_of {D : Dk} (hD : D.ok) {s : List Cd × List Nat} (hok : StOk D s) {n j : Nat} (hC : Cyc D.w s n j) {t k : Nat} {p : Nat × Nat} (h : (plN D.w s 0 t)[k]? = some p) : findP D.w s n j k = some p := by
  obtain ⟨h1, h2, h3⟩ := (plN_iff hD hok t k p).mp h
  have hlt := hC.lt
  have hk := (List.getElem?_eq_some_iff.mp h3).1
  have hn := plN_ge hD hok n
  have hj := plN_ge hD hok j
  have hw := wsum_em hD hok p.1
  unfold findP
  rw [hn, hj]
  by_cases hkn : k < wsum emits D.w s n
  · rw [if_pos hkn]
    refine (plN_iff hD hok n k p).mpr ⟨?_, h2, h3⟩
    by_cases e : p.1 < n
    · exact e
    · have := wsum_mono (wt := emits) (w := D.w) (s := s) (show n ≤ p.1 by omega)
      omega
  rw [if_neg hkn]
  have hi : n ≤ p.1 := by
    by_cases e : n ≤ p.1
    · exact e
    · have := wsum_mono (wt := emits) (w := D.w) (s := s) (show p.1 + 1 ≤ n by omega)
      omega
  have hmj := wsum_mono (wt := emits) (w := D.w) (s := s) (Nat.le_of_lt hlt)
  have hml := Nat.mod_lt (p.1 - j) (y := n - j) (by omega)
  have hdm := Nat.mod_add_div (p.1 - j) (n - j)
  have hst : itS D.w p.1 s = itS D.w (j + (p.1 - j) % (n - j)) s := hC.far (by omega)
  have hr := hC.rounds emits ((p.1 - j) % (n - j)) ((p.1 - j) / (n - j))
  generalize hqq : (p.1 - j) / (n - j) = q at *
  generalize hrr : (p.1 - j) % (n - j) = r at *
  rw [Nat.mul_comm] at hdm
  have ei : p.1 = j + r + q * (n - j) := by omega
  rw [← ei] at hr
  have hem : em D.w s p.1 = em D.w s (j + r) := by
    show (stepO D.w (itS D.w p.1 s)).2.1 = (stepO D.w (itS D.w (j + r) s)).2.1
    rw [hst]
  have hw2 := wsum_em hD hok (j + r)
  rw [hem] at h3 hk hw
  have m1 := wsum_mono (wt := emits) (w := D.w) (s := s) (show j ≤ j + r by omega)
  have m2 := wsum_mono (wt := emits) (w := D.w) (s := s) (show j + r + 1 ≤ n by omega)
  have hL : wsum emits D.w s n - wsum emits D.w s j ≠ 0 := by omega
  rw [if_neg hL]
  obtain ⟨d1, d2⟩ := divmod_of (x := k - wsum emits D.w s j) (r := (k - wsum emits D.w s p.1) + (wsum emits D.w s (j + r) - wsum emits D.w s j)) (q := q) (L := wsum emits D.w s n - wsum emits D.w s j) (by omega) (by omega)
  rw [d1, d2, (plN_iff hD hok n _ (j + r, p.2)).mpr ⟨by show j + r < n; omega, by show wsum emits D.w s (j + r) ≤ _; omega, by
    show (em D.w s (j + r))[_ - wsum emits D.w s (j + r)]? = some p.2
    rw [show wsum emits D.w s j + (k - wsum emits D.w s p.1 + (wsum emits D.w s (j + r) - wsum emits D.w s j)) - wsum emits D.w s (j + r) = k - wsum emits D.w s p.1 by omega]
    exact h3⟩]
  show some (j + r + q * (n - j), p.2) = some p
  rw [← ei]
abbrev vD (p : Nat × Nat) : Dv := iN p.2
theorem fv_take (l : List (Nat × Nat)) : ∀ m, ((List.range m).map fun k => ovD l[k]?).filter (fun d => !d.isN) = (l.take m).map vD
  | 0 => rfl
  | m + 1 => by
    rw [List.range_succ, List.map_append, List.filter_append, fv_take l m, List.take_succ, List.map_append]
    congr 1
    rw [List.map_cons, List.map_nil]
    cases e : l[m]? with
    | none => rfl
    | some p => rfl
theorem fvL_of {w : Nat} {s : List Cd × List Nat} {n j m : Nat} {l : List (Nat × Nat)} (h : ∀ k < m, findP w s n j k = l[k]?) : fvL w s n j m = (l.take m).map vD := by
  rw [← fv_take]
  unfold fvL
  congr 1
  apply List.map_congr_left
  intro k hk
  rw [h k (List.mem_range.mp hk)]
/-- the first values, where so many stand -/
theorem fvL_enough {D : Dk} (hD : D.ok) {s : List Cd × List Nat} (hok : StOk D s) {n j m t : Nat} (hC : Cyc D.w s n j) (h : m ≤ (plN D.w s 0 t).length) : fvL D.w s n j m = ((plN D.w s 0 t).take m).map vD :=
  fvL_of fun k hk => by
    have e : (plN D.w s 0 t)[k]? = some (plN D.w s 0 t)[k] := List.getElem?_eq_getElem (by omega)
    rw [e]
    exact findP_of hD hok hC e
/-- the first values, where none comes again -/
theorem fvL_idle {D : Dk} (hD : D.ok) {s : List Cd × List Nat} (hok : StOk D s) {n j m : Nat} (hC : Cyc D.w s n j) (h : (plN D.w s 0 n).length = (plN D.w s 0 j).length) : fvL D.w s n j m = ((plN D.w s 0 n).take m).map vD :=
  fvL_of fun k hk => by
    unfold findP
    by_cases e : k < (plN D.w s 0 n).length
    · rw [if_pos e]
    · rw [if_neg e, if_pos (by omega), List.getElem?_eq_none (by omega)]
/-- the place in the list of the step t, by the law's way of counting -/
def sx (n j : Nat) (idle : Bool) (t : Nat) : Nat := if idle = true then t else if t < j then t else j + (t - j) % (n - j)
theorem succ_mod {x L : Nat} (hL : 0 < L) : (x + 1) % L = if x % L + 1 = L then 0 else x % L + 1 := by
  have hm := Nat.mod_lt x hL
  have hd := Nat.mod_add_div x L
  generalize hr : x % L = r at *
  generalize hq : x / L = q at *
  rw [Nat.mul_comm] at hd
  by_cases h : r + 1 = L
  · rw [if_pos h]
    exact (divmod_of (x := x + 1) (r := 0) (q := q + 1) (L := L) (by rw [Nat.add_mul, Nat.one_mul]; omega) hL).1
  · rw [if_neg h]
    exact (divmod_of (x := x + 1) (r := r + 1) (q := q) (L := L) (by omega) (by omega)).1
theorem sx_lt {n j t : Nat} (h : j < n) : sx n j false t < n := by
  unfold sx
  rw [if_neg (by decide)]
  have := Nat.mod_lt (t - j) (y := n - j) (by omega)
  split <;> omega
theorem sx_succ {n j t : Nat} (h : j < n) : sx n j false (t + 1) = if sx n j false t + 1 = n then j else sx n j false t + 1 := by
  have ex : ∀ u, sx n j false u = if u < j then u else j + (u - j) % (n - j) := fun u => by unfold sx; rw [if_neg Bool.false_ne_true]
  rw [ex, ex]
  have hm := Nat.mod_lt (t - j) (y := n - j) (by omega)
  have hs := succ_mod (x := t - j) (L := n - j) (by omega)
  by_cases h1 : t < j
  · rw [if_pos h1, if_neg (show ¬ t + 1 = n by omega)]
    by_cases h2 : t + 1 < j
    · rw [if_pos h2]
    · rw [if_neg h2, show t + 1 - j = 0 by omega, Nat.zero_mod]
      omega
  · rw [if_neg h1, if_neg (by omega), show t + 1 - j = t - j + 1 by omega, hs]
    by_cases h2 : (t - j) % (n - j) + 1 = n - j
    · rw [if_pos h2, if_pos (by omega)]
      rfl
    · rw [if_neg h2, if_neg (by omega)]
      omega
theorem em_sx {w : Nat} {s : List Cd × List Nat} {n j : Nat} (hC : Cyc w s n j) (idle : Bool) (t : Nat) : em w s (sx n j idle t) = em w s t := by
  unfold sx
  cases idle with
  | true => rfl
  | false =>
    rw [if_neg (by decide)]
    by_cases h : t < j
    · rw [if_pos h]
    · rw [if_neg h]
      show (stepO w (itS w _ s)).2.1 = (stepO w (itS w t s)).2.1
      rw [hC.far (m := t) (by omega)]
/-- with a value in the cycle, enough rounds give enough values -/
theorem enough {D : Dk} {s : List Cd × List Nat} {n j m t : Nat} (hC : Cyc D.w s n j) (hL : wsum emits D.w s n ≠ wsum emits D.w s j) (ht : n + m * (n - j) ≤ t) : m ≤ wsum emits D.w s t := by
  have hlt := hC.lt
  have h1 := hC.rounds emits 0 m
  have h2 := wsum_mono (wt := emits) (w := D.w) (s := s) (show j + 0 + m * (n - j) ≤ t by omega)
  have h3 := wsum_mono (wt := emits) (w := D.w) (s := s) (Nat.le_of_lt hlt)
  have h4 : m * 1 ≤ m * (wsum emits D.w s n - wsum emits D.w s j) := Nat.mul_le_mul_left m (by omega)
  omega
def vL (w : Nat) (s : List Cd × List Nat) (t : Nat) : List Dv := (plN w s 0 t).map vD
theorem vL_succ (w : Nat) (s : List Cd × List Nat) (t : Nat) : vL w s (t + 1) = vL w s t ++ (em w s t).map iN := by
  unfold vL
  show ((plN w s 0 t ++ (em w s (0 + t)).map fun v => (0 + t, v)).map vD) = _
  rw [List.map_append, List.map_map, Nat.zero_add]
  rfl
theorem vL_len {D : Dk} (hD : D.ok) {s : List Cd × List Nat} (h : StOk D s) (t : Nat) : (vL D.w s t).length = wsum emits D.w s t := by
  unfold vL
  rw [List.length_map, plN_ge hD h]
theorem emL'_drop {D : Dk} (hD : D.ok) {s : List Cd × List Nat} (h : StOk D s) {j n : Nat} (hj : j ≤ n) : (((emL' D.w s n).drop j).map fun l => (l.length : Int)).sum = ((wsum emits D.w s n - wsum emits D.w s j : Nat) : Int) := by
  have e := congrArg (fun l => (l.map fun l : List Dv => (l.length : Int)).sum) (List.take_append_drop j (emL' D.w s n))
  simp only [List.map_append, List.sum_append] at e
  rw [emL'_take _ _ hj, emL'_sum hD h, emL'_sum hD h, plN_ge hD h, plN_ge hD h] at e
  have := wsum_mono (wt := emits) (w := D.w) (s := s) hj
  omega
def S_output : DS := fun ds M R => ∃ (D : Dk) (s : List Cd × List Nat) (n j m : Nat), ds = [.lst (emL D.w s n), iN j, iN m] ∧ M = [] ∧ D.ok ∧ StOk D s ∧ Cyc D.w s n j ∧ n ≤ 1000 ∧ m ≤ 10000 ∧ R (.lst (fvL D.w s n j m)) []
/-- where a found value stands -/
theorem findP_at {D : Dk} (hD : D.ok) {s : List Cd × List Nat} (hok : StOk D s) {n j k : Nat} (hC : Cyc D.w s n j) {p : Nat × Nat} (h : findP D.w s n j k = some p) :
    p.1 < n + (k + 1) * (n - j) ∧ wsum emits D.w s p.1 ≤ k ∧ (em D.w s p.1)[k - wsum emits D.w s p.1]? = some p.2 := by
  have hn := plN_ge hD hok n
  have hj := plN_ge hD hok j
  have hlt := hC.lt
  have hlen : k < (plN D.w s 0 (n + (k + 1) * (n - j))).length := by
    rw [plN_ge hD hok]
    by_cases hk : k < wsum emits D.w s n
    · have := wsum_mono (wt := emits) (w := D.w) (s := s) (show n ≤ n + (k + 1) * (n - j) from Nat.le_add_right _ _)
      omega
    · have hL : wsum emits D.w s n ≠ wsum emits D.w s j := fun e => by
        unfold findP at h
        rw [hn, hj, if_neg hk, if_pos (by omega)] at h
        cases h
      exact enough hC hL (Nat.le_refl _)
  have e := List.getElem?_eq_getElem hlen
  have h2 := findP_of hD hok hC e
  rw [h] at h2
  rw [← h2] at e
  exact (plN_iff hD hok _ k p).mp e
def S_is_event : DS := fun ds M R => ∃ (x : Str) (D : Dk) (n j m : Nat) (p : Nat × Nat), ds = [.str x, orD D.w (st0 D) n j, iN m, plD p] ∧ M = [] ∧ TxOk x D ∧ Cyc D.w (st0 D) n j ∧ n ≤ 1000 ∧ m ≤ 10000 ∧ findP D.w (st0 D) n j m = some p ∧ R (.bl true) []
end Dw
namespace Dw
open PySem L2 TL
section
variable {K : PySem.W.Frag} {F : List Addr} {M : Mu} {Γ : Ga} {te : TE}
theorem rgV_nat (n : Nat) : rgV 0 (n : Int) = (List.range n).map fun i => V.int (i : Nat) := by
  unfold rgV
  rw [show ((n : Int) - 0).toNat = n by omega]
  apply List.map_congr_left
  intro i _
  rw [Int.zero_add]
theorem rpl_ints {H : Hp} : ∀ l : List Nat, RpL K H (l.map fun i => V.int (i : Nat)) (l.map iN)
  | [] => .nil
  | i :: l => .cons (.int _) (rpl_ints l)
/-- list(range(n)) -/
theorem en_listRg {n : Nat} (h : EvD K F M te Γ (iN n)) (hn : n ≤ 60000) : EvN K F M (tLstRg (tRg1 te)) Γ ((List.range n).map iN) := fun σ H m s Q q => h σ H m s _ fun v H1 e1 r1 => by
  cases r1
  refine ⟨(n : Nat), rfl, RgOk.of_le (Int.le_refl 0) (by omega) (by decide) (by omega), fun p hp => ?_⟩
  rw [rgV_nat]
  exact q p _ _ (none_back e1 hp) (e1.trans (same_new hp)) upd_same (rpl_ints _)
end
/-- a count of m steps, from the last steps and whole rounds -/
theorem count_law {w : Nat} {s : List Cd × List Nat} {n j : Nat} (hC : Cyc w s n j) (wt : Cd → Nat) {m : Nat} (hm : n < m) :
    m - ((m - j) / (n - j) - 1) * (n - j) ≤ n + (n - j) ∧ wsum wt w s m = wsum wt w s (m - ((m - j) / (n - j) - 1) * (n - j)) + ((m - j) / (n - j) - 1) * (wsum wt w s n - wsum wt w s j) := by
  have hlt := hC.lt
  have hd := Nat.mod_add_div (m - j) (n - j)
  have hr := Nat.mod_lt (m - j) (y := n - j) (by omega)
  have h1 : 1 ≤ (m - j) / (n - j) := (Nat.one_le_div_iff (by omega)).mpr (by omega)
  generalize (m - j) % (n - j) = r at *
  obtain ⟨q, hq⟩ : ∃ q, (m - j) / (n - j) = q + 1 := ⟨_, (Nat.sub_add_cancel h1).symm⟩
  rw [hq] at hd ⊢
  rw [Nat.add_sub_cancel]
  rw [Nat.mul_comm, Nat.add_mul, Nat.one_mul] at hd
  have hk := hC.rounds wt (r + (n - j)) q
  have e : j + (r + (n - j)) + q * (n - j) = m := by omega
  rw [e] at hk
  have e2 : m - q * (n - j) = j + (r + (n - j)) := by omega
  rw [e2]
  exact ⟨by omega, hk⟩
def stpL (n j : Nat) : List Dv := (List.range n).map iN ++ (List.range (n - j)).map fun k => iN (j + k)
theorem stpL_len (n j : Nat) : (stpL n j).length = n + (n - j) := by
  unfold stpL
  rw [List.length_append, List.length_map, List.length_map, List.length_range, List.length_range]
theorem stpL_at {w : Nat} {s : List Cd × List Nat} {n j i : Nat} (hC : Cyc w s n j) (h : i < n + (n - j)) : ∃ idx, (stpL n j)[i]? = some (iN idx) ∧ idx < n ∧ itS w idx s = itS w i s := by
  have hlt := hC.lt
  unfold stpL
  by_cases hi : i < n
  · refine ⟨i, ?_, hi, rfl⟩
    rw [List.getElem?_append_left (by rw [List.length_map, List.length_range]; exact hi), List.getElem?_map, List.getElem?_range hi]
    rfl
  · refine ⟨j + (i - n), ?_, by omega, ?_⟩
    · rw [List.getElem?_append_right (by rw [List.length_map, List.length_range]; omega), List.length_map, List.length_range, List.getElem?_map, List.getElem?_range (by omega)]
      rfl
    · have := itS_shift (w := w) (s := s) hC.eq (i - n)
      rw [show n + (i - n) = i by omega] at this
      exact this.symm
theorem wL_at (wt : Cd → Nat) (w : Nat) (s : List Cd × List Nat) {n i : Nat} (h : i < n) : (wL wt w s n)[i]? = some ((wt1 wt (itS w i s) : Nat) : Int) := by
  unfold wL
  rw [List.getElem?_map, List.getElem?_range h]
  rfl
theorem cutD_mid {xs : List Dv} {j n : Nat} (h1 : j ≤ n) (h2 : n ≤ xs.length) : cutD xs (some (j : Int)) (some (n : Int)) = (xs.take n).drop j := by
  unfold cutD
  rw [HT.sIx_nat, HT.sIx_nat, Nat.min_eq_left h2, Nat.min_eq_left (by omega), List.drop_take]
theorem slice1 (wt : Cd → Nat) (w : Nat) (s : List Cd × List Nat) {j n N : Nat} (h1 : j ≤ n) (h2 : n ≤ N) : cutD ((wL wt w s N).map Dv.int) (some (j : Int)) (some (n : Int)) = ((wL wt w s n).drop j).map Dv.int := by
  rw [cutD_mid h1 (by rw [List.length_map, wL_len]; exact h2), ← List.map_take, wL_take wt w s h2, ← List.map_drop]
theorem slice2 (wt : Cd → Nat) (w : Nat) (s : List Cd × List Nat) {m N : Nat} (h : m ≤ N) : cutD ((wL wt w s N).map Dv.int) none (some (m : Int)) = (wL wt w s m).map Dv.int := by
  rw [cutD_to (by rw [List.length_map, wL_len]; exact h), ← List.map_take, wL_take wt w s h]
theorem wtN_le (x : Str) (w : Nat) (s : List Cd × List Nat) : ∀ n, wsum (wtN x) w s n ≤ n
  | 0 => Nat.le_refl 0
  | n + 1 => by
    have ih := wtN_le x w s n
    show wsum (wtN x) w s n + wt1 (wtN x) (itS w n s) ≤ n + 1
    have : wt1 (wtN x) (itS w n s) ≤ 1 := by
      unfold wt1
      split
      · omega
      · unfold wtN; split <;> omega
    omega
/-- the first values, one more -/
theorem fvL_more {D : Dk} (hD : D.ok) {s : List Cd × List Nat} (hok : StOk D s) {n j m : Nat} (hC : Cyc D.w s n j) : (fvL D.w s n j m).length ≤ m ∧ ((fvL D.w s n j (m + 1)).length ≤ m ↔ findP D.w s n j m = none) := by
  have hle : ∀ m, (fvL D.w s n j m).length ≤ m := fun m => by
    unfold fvL
    refine Nat.le_trans (List.length_filter_le ..) ?_
    rw [List.length_map, List.length_range]
    exact Nat.le_refl _
  refine ⟨hle m, ?_⟩
  cases h : findP D.w s n j m with
  | none =>
    refine ⟨fun _ => rfl, fun _ => ?_⟩
    have : fvL D.w s n j (m + 1) = fvL D.w s n j m := by
      unfold fvL
      rw [List.range_succ, List.map_append, List.filter_append, List.map_cons, List.map_nil, h]
      show _ ++ [] = _
      rw [List.append_nil]
    rw [this]
    exact hle m
  | some p =>
    refine ⟨fun hl => ?_, fun e => (nomatch e)⟩
    obtain ⟨p1, p2, p3⟩ := findP_at hD hok hC h
    have hp := (plN_iff hD hok _ m p).mpr ⟨p1, p2, p3⟩
    have hlen := (List.getElem?_eq_some_iff.mp hp).1
    rw [fvL_enough hD hok hC (m := m + 1) (t := n + (m + 1) * (n - j)) (by omega), List.length_map, List.length_take] at hl
    omega
theorem eqvAll_ints : ∀ ys : List Int, PyData.eqvAll (toPyL (ys.map Dv.int)) (toPyL (ys.map Dv.int)) = true
  | [] => rfl
  | y :: ys => by
    have ih := eqvAll_ints ys
    show (PyData.eqv (.int y) (.int y) && PyData.eqvAll _ _) = true
    rw [ih, Bool.and_true]
    show (y == y) = true
    exact beq_self_eq_true y
/-- the first values are numbers -/
theorem fvL_ints {w : Nat} {s : List Cd × List Nat} {n j m : Nat} : ∃ ys : List Int, fvL w s n j m = ys.map Dv.int := by
  unfold fvL
  generalize (List.range m) = l
  induction l with
  | nil => exact ⟨[], rfl⟩
  | cons k l ih =>
    obtain ⟨ys, h⟩ := ih
    rw [List.map_cons]
    cases findP w s n j k with
    | none => exact ⟨ys, h⟩
    | some p => exact ⟨(p.2 : Int) :: ys, by rw [List.map_cons, ← h]; rfl⟩
theorem eqd_ints2 {M : Mu} {n : Nat} (v : List Int) : ∀ (i : Nat) x d, (v.map Dv.int)[i]? = some x → (v.map Dv.int)[i]? = some d → Eqd M n x d := fun i x d hx hd => by
  rw [hx] at hd
  cases hd
  obtain ⟨k, _, rfl⟩ := List.mem_map.mp (List.mem_of_getElem? hx)
  exact .int _
theorem pl_ints (ys : List Int) : Pl 2 (.lst (ys.map Dv.int)) := fun x hx => by
  obtain ⟨k, _, rfl⟩ := List.mem_map.mp hx
  trivial
end Dw
namespace Dw
open PySem L2 TL
/-- plain data without truth values: == is equality there -/
def Ps : Nat → Dv → Prop
  | _, .non => True
  | _, .int _ => True
  | _, .str x => PyData.strOk x = true
  | n + 1, .lst xs => ∀ x ∈ xs, Ps n x
  | n + 1, .tup xs => ∀ x ∈ xs, Ps n x
  | _, _ => False
theorem Ps.pl : ∀ {n : Nat} {d : Dv}, Ps n d → Pl n d
  | 0, .non, _ => trivial
  | _ + 1, .non, _ => trivial
  | 0, .int _, _ => trivial
  | _ + 1, .int _, _ => trivial
  | 0, .str _, p => p
  | _ + 1, .str _, p => p
  | _ + 1, .lst _, p => fun x hx => Ps.pl (p x hx)
  | _ + 1, .tup _, p => fun x hx => Ps.pl (p x hx)
theorem Ps.up : ∀ {n : Nat} {d : Dv}, Ps n d → Ps (n + 1) d
  | 0, .non, _ => trivial
  | _ + 1, .non, _ => trivial
  | 0, .int _, _ => trivial
  | _ + 1, .int _, _ => trivial
  | 0, .str _, p => p
  | _ + 1, .str _, p => p
  | n + 1, .lst _, p => fun x hx => Ps.up (n := n) (p x hx)
  | n + 1, .tup _, p => fun x hx => Ps.up (n := n) (p x hx)
theorem eqv_self {n : Nat} {d : Dv} (p : Pl n d) : PyData.eqv (toPy d) (toPy d) = true := SeqAt.eqv_refl _ (pl_lay n d p).1
theorem eqv_eqL {n : Nat} (ih : ∀ {d e : Dv}, Ps n d → Ps n e → PyData.eqv (toPy d) (toPy e) = true → d = e) : ∀ xs ys : List Dv, (∀ x ∈ xs, Ps n x) → (∀ x ∈ ys, Ps n x) → PyData.eqvAll (toPyL xs) (toPyL ys) = true → xs = ys := by
  intro xs
  induction xs with
  | nil => intro ys _ _ h; cases ys with
    | nil => rfl
    | cons y ys => simp only [toPyL, PyData.eqvAll] at h; cases h
  | cons x xs ihx => intro ys p q h; cases ys with
    | nil => simp only [toPyL, PyData.eqvAll] at h; cases h
    | cons y ys =>
      simp only [toPyL, PyData.eqvAll, Bool.and_eq_true] at h
      rw [ih (p x (List.mem_cons_self ..)) (q y (List.mem_cons_self ..)) h.1, ihx ys (fun z hz => p z (List.mem_cons_of_mem _ hz)) (fun z hz => q z (List.mem_cons_of_mem _ hz)) h.2]
theorem eqv_eq : ∀ {n : Nat} {d e : Dv}, Ps n d → Ps n e → PyData.eqv (toPy d) (toPy e) = true → d = e := by
  intro n
  induction n with
  | zero =>
    intro d e p q h
    cases d with
    | non => cases e <;> first | rfl | (simp [toPy, PyData.eqv] at h; done) | exact q.elim
    | int i => cases e <;> first | exact q.elim | (simp [toPy, PyData.eqv] at h; done) | (simp [toPy, PyData.eqv] at h; rw [h])
    | str i => cases e <;> first | exact q.elim | (simp [toPy, PyData.eqv] at h; done) | (simp [toPy, PyData.eqv] at h; rw [h])
    | _ => exact p.elim
  | succ n ih =>
    intro d e p q h
    cases d with
    | non => cases e <;> first | rfl | (simp [toPy, PyData.eqv] at h; done) | exact q.elim
    | int i => cases e <;> first | exact q.elim | (simp [toPy, PyData.eqv] at h; done) | (simp [toPy, PyData.eqv] at h; rw [h])
    | str i => cases e <;> first | exact q.elim | (simp [toPy, PyData.eqv] at h; done) | (simp [toPy, PyData.eqv] at h; rw [h])
    | lst i => cases e <;> first | exact q.elim | (simp [toPy, PyData.eqv] at h; done) | (simp only [toPy, PyData.eqv] at h; rw [eqv_eqL ih _ _ p q h])
    | tup i => cases e <;> first | exact q.elim | (simp [toPy, PyData.eqv] at h; done) | (simp only [toPy, PyData.eqv] at h; rw [eqv_eqL ih _ _ p q h])
    | _ => exact p.elim
theorem eqv_iff {n : Nat} {d e : Dv} (p : Ps n d) (q : Ps n e) : PyData.eqv (toPy d) (toPy e) = true ↔ d = e := ⟨eqv_eq p q, fun h => by subst h; exact eqv_self p.pl⟩
theorem eqv_dec {n : Nat} {d e : Dv} (p : Ps n d) (q : Ps n e) {c : Prop} [Decidable c] (h : c ↔ d = e) : PyData.eqv (toPy d) (toPy e) = decide c := by
  cases hb : PyData.eqv (toPy d) (toPy e) with
  | true => exact (decide_eq_true (h.mpr ((eqv_iff p q).mp hb))).symm
  | false => exact (decide_eq_false fun z => by rw [(eqv_iff p q).mpr (h.mp z)] at hb; cases hb).symm
theorem toPyL_map : ∀ ds : List Dv, toPyL ds = ds.map toPy
  | [] => rfl
  | d :: ds => by rw [toPyL, toPyL_map ds]; rfl
theorem any_eqv {n : Nat} {x : Dv} (p : Ps n x) : ∀ {ds : List Dv}, (∀ e ∈ ds, Ps n e) → (((toPyL ds).any fun z => PyData.eqv z (toPy x)) = true ↔ x ∈ ds) := by
  intro ds q
  rw [toPyL_map, List.any_map, List.any_eq_true]
  constructor
  · rintro ⟨e, he, h⟩
    have : e = x := (eqv_iff (q e he) p).mp h
    rw [← this]; exact he
  · intro h
    exact ⟨x, h, eqv_self p.pl⟩
section
variable {K : PySem.W.Frag} {Pm F : List Addr} {M : Mu} {Γ : Ga} {ta tb te tl' to : TE} {x y z d : Dv} {t u : TT} {R : Dv → Mu → Prop} {P : Po} {H0 H H' : Hp} {σ : L2.St} {ts : TS}
theorem od_eqY {n : Nat} (hx : Pl n x) (hn : n ≤ 64) : OpD K F M (rEqG K) x x (.bl true) := by
  have := od_eqD (K := K) (F := F) (M := M) hx hx hn
  rw [eqv_self hx] at this
  exact this
theorem od_neY {n : Nat} (hx : Pl n x) (hn : n ≤ 64) : OpD K F M (rNeG K) x x (.bl false) := by
  have := od_neD (K := K) (F := F) (M := M) hx hx hn
  rw [eqv_self hx] at this
  exact this
theorem od_eqP {n : Nat} (hx : Ps n x) (hy : Ps n y) (hn : n ≤ 64) {c : Prop} [Decidable c] (h : c ↔ x = y) : OpD K F M (rEqG K) x y (.bl (decide c)) := by
  have := od_eqD (K := K) (F := F) (M := M) hx.pl hy.pl hn
  rw [eqv_dec hx hy h] at this
  exact this
theorem od_neP {n : Nat} (hx : Ps n x) (hy : Ps n y) (hn : n ≤ 64) {c : Prop} [Decidable c] (h : c ↔ x = y) : OpD K F M (rNeG K) x y (.bl (!decide c)) := by
  have := od_neD (K := K) (F := F) (M := M) hx.pl hy.pl hn
  rw [eqv_dec hx hy h] at this
  exact this
theorem pl_list {n : Nat} {ds : List Dv} (h : ∀ e ∈ ds, Pl n e) : Pl (n + 1) (.lst ds) := by simpa [Pl] using h
theorem any_dec {n : Nat} (hx : Ps n x) {ds : List Dv} (hs : ∀ e ∈ ds, Ps n e) {c : Prop} [Decidable c] (h : c ↔ x ∈ ds) : ((toPyL ds).any fun z => PyData.eqv z (toPy x)) = decide c := by
  cases hb : (toPyL ds).any fun z => PyData.eqv z (toPy x) with
  | true => exact (decide_eq_true (h.mpr ((any_eqv hx hs).mp hb))).symm
  | false => exact (decide_eq_false fun z => by rw [(any_eqv hx hs).mpr (h.mp z)] at hb; cases hb).symm
theorem od_inP {n : Nat} (hx : Ps n x) {ds : List Dv} (hs : ∀ e ∈ ds, Ps n e) (hn : n + 1 ≤ 64) {c : Prop} [Decidable c] (h : c ↔ x ∈ ds) : OpD K F M (rInG K) x (.lst ds) (.bl (decide c)) := fun v w H m r1 r2 Q q => by
  have pl : Pl (n + 1) (.lst ds) := pl_list fun e he => (hs e he).pl
  have e := rp_dp pl (r2.mono (hid_sub _ _))
  have sh := pl_shaped pl hn
  simp only [toPy] at e sh
  refine .inr (.inr ⟨_, toPyL ds, rp_dp hx.pl (r1.mono (hid_sub _ _)), e, pl_shaped hx.pl (by omega), sh, ?_⟩)
  rw [any_dec hx hs h]
  exact q _ H (Same.refl H) (.bl _)
theorem od_ninP {n : Nat} (hx : Ps n x) {ds : List Dv} (hs : ∀ e ∈ ds, Ps n e) (hn : n + 1 ≤ 64) {c : Prop} [Decidable c] (h : c ↔ x ∈ ds) : OpD K F M (rNinG K) x (.lst ds) (.bl (!decide c)) := fun v w H m r1 r2 Q q => by
  have pl : Pl (n + 1) (.lst ds) := pl_list fun e he => (hs e he).pl
  have e := rp_dp pl (r2.mono (hid_sub _ _))
  have sh := pl_shaped pl hn
  simp only [toPy] at e sh
  refine .inr ⟨_, toPyL ds, rp_dp hx.pl (r1.mono (hid_sub _ _)), e, pl_shaped hx.pl (by omega), sh, ?_⟩
  rw [any_dec hx hs h]
  exact q _ H (Same.refl H) (.bl _)
/-! xs.index(x) -/
def rIndexG (K : PySem.W.Frag) : V → List V → Hp → VK → Prop := rIndexD K
theorem mt_indexG {X : Cx} (hK : X.K = K) (hu : X.A.units + 65 < cLine) : MtR X "list.index" (rIndexG K) := hK ▸ mt_indexD hu
theorem ed_bmL {r : V → List V → Hp → VK → Prop} {tA : TA} {xs ds : List Dv} (ho : EvD K F M to Γ (.lst xs)) (h : EvA K F M tA Γ ds) (hr : MtD K F M r (.lst xs) ds z) : EvD K F M (tBM K "list" r to tA) Γ z := fun σ H m s Q q =>
  ho σ H m s _ fun v H1 e1 r1 => by
    have hty : tyV K "list" v H1 := by
      cases r1 with
      | lst h1 _ => exact .inl ⟨rfl, _, .inl (.inl (hid_some h1).2)⟩
    refine ⟨hty, h σ H1 (m.mono e1) (s.mono e1) _ fun vs H2 e2 r2 => hr v vs H2 ((m.mono e1).mono e2) (r1.mono (hid_same e2)) r2 Q fun u H3 e3 r3 => q u H3 ((e1.trans e2).trans e3) r3⟩
theorem md_indexP {n j : Nat} (hx : Ps n x) {ds : List Dv} (hs : ∀ e ∈ ds, Ps n e) (hn : n + 1 ≤ 64) (hj : ds[j]? = some x) (hb : ∀ m < j, ds[m]? ≠ some x) : MtD K F M (rIndexG K) (.lst ds) [x] (iN j) := fun v vs H m r1 r2 Q q => by
  have pl : Pl (n + 1) (.lst ds) := pl_list fun e he => (hs e he).pl
  cases r2 with
  | cons r2 r3 =>
  cases r3
  have e := rp_dp pl (r1.mono (hid_sub _ _))
  have sh := pl_shaped pl hn
  simp only [toPy] at e sh
  cases r1 with
  | lst h1 rl =>
  have gt : ∀ m : Nat, (toPyL ds)[m]? = (ds[m]?).map toPy := fun m => by rw [toPyL_map, List.getElem?_map]
  refine ⟨_, _, _, toPyL ds, j, toPy x, rfl, rfl, e, rp_dp hx.pl (r2.mono (hid_sub _ _)), sh, pl_shaped hx.pl (by omega), by rw [gt, hj]; rfl, eqv_self hx.pl, fun m z' hm hz => ?_, q _ H (Same.refl H) (.int _)⟩
  rw [gt] at hz
  cases hd : ds[m]? with
  | none => rw [hd] at hz; cases hz
  | some e' =>
    rw [hd] at hz
    cases hz
    cases hv : PyData.eqv (toPy e') (toPy x) with
    | false => rfl
    | true =>
      have : e' = x := eqv_eq (hs e' (List.mem_of_getElem? hd)) hx hv
      exact absurd (by rw [hd, this]) (hb m hm)
/-! lists in lists -/
theorem Stt.drpA : ∀ (A : Mu) {M : Mu}, Stt K Pm F (A ++ M) H0 H σ Γ → Stt K Pm F M H0 H σ Γ ∧ Kp F (A ++ M) H M H
  | [], _, S => ⟨S, Same.refl _⟩
  | q :: A, M, S => by
    obtain ⟨S1, k1⟩ := S.drp
    obtain ⟨S2, k2⟩ := Stt.drpA A S1
    exact ⟨S2, k1.trans k2⟩
/-- what is looked up in A is data when A is changed no more -/
theorem eqd_rp {A B : Mu} (m : Ms K F (A ++ B) H) (hk : Same (hid (ads (A ++ B) ++ F) H) (hid (ads B ++ F) H)) : ∀ {n : Nat} {x d : Dv} {v : V}, Eqd A n x d → Rp K (hid (ads (A ++ B) ++ F) H) v x → Rp K (hid (ads B ++ F) H) v d := by
  have lists : ∀ {n : Nat}, (∀ {x d : Dv} {v : V}, Eqd A n x d → Rp K (hid (ads (A ++ B) ++ F) H) v x → Rp K (hid (ads B ++ F) H) v d) →
      ∀ (xs ds : List Dv) (vs : List V), xs.length = ds.length → (∀ (i : Nat) x d, xs[i]? = some x → ds[i]? = some d → Eqd A n x d) → RpL K (hid (ads (A ++ B) ++ F) H) vs xs → RpL K (hid (ads B ++ F) H) vs ds := by
    intro n ih xs
    induction xs with
    | nil => intro ds vs hl _ r
             cases ds with
             | nil => cases r; exact .nil
             | cons _ _ => cases hl
    | cons x xs ihx => intro ds vs hl he r
                       cases ds with
                       | nil => cases hl
                       | cons d ds =>
                         cases r with
                         | cons r1 r2 =>
                           exact .cons (ih (he 0 x d rfl rfl) r1) (ihx ds _ (Nat.succ.inj hl) (fun i a b ha hb => he (i + 1) a b ha hb) r2)
  intro n
  induction n with
  | zero =>
    intro x d v e r
    cases e with
    | non => cases r; exact .non
    | int i => cases r; exact .int i
    | str i => cases r; exact .str i
    | bl i => cases r; exact .bl i
  | succ n ih =>
    intro x d v e r
    cases e with
    | non => cases r; exact .non
    | int i => cases r; exact .int i
    | str i => cases r; exact .str i
    | bl i => cases r; exact .bl i
    | tup hl hz ha =>
      cases r with
      | tup h1 r1 => exact .tup (sqN_mono hk h1) (lists ih _ _ _ hl ha r1)
    | lst hl hz ha =>
      cases r with
      | lst h1 r1 => exact .lst (hk _ _ h1) (lists ih _ _ _ hl ha r1)
    | @adr _ j p xs ds hj hl hz ha =>
      cases r
      have hjl := (List.getElem?_eq_some_iff.mp hj).1
      have hmem : (p, Mv.lst xs) ∈ A := List.mem_of_getElem? hj
      obtain ⟨ys, hy, ry⟩ := m.ok _ (List.mem_append_left B hmem)
      have hnot : p ∉ ads B ++ F := fun z => by
        rcases List.mem_append.mp z with z | z
        · have nd := m.nd
          rw [ads_app, List.nodup_append] at nd
          exact nd.2.2 p (List.mem_map.mpr ⟨_, hmem, rfl⟩) p z rfl
        · exact m.ap p z (by rw [ads_app]; exact List.mem_append_left _ (List.mem_map.mpr ⟨_, hmem, rfl⟩))
      exact .lst (by rw [hid_out hnot]; exact hy) (lists ih _ _ _ hl ha ry)
/-- behind an expression: a list, with the lists in it, is changed no more -/
theorem wx_frzA (h : WpX K Pm F te Γ M fun x M' => ∃ A B n d, M' = A ++ B ∧ Eqd A n x d ∧ R d B) : WpX K Pm F te Γ M R := fun H0 σ H S Q q =>
  h H0 σ H S _ fun v H1 x M1 ⟨A, B, n, d, e1, e2, hR⟩ S1 k1 r1 => by
    subst e1
    obtain ⟨S2, k2⟩ := S1.drpA A
    exact q _ H1 _ _ hR S2 (k1.trans k2) (eqd_rp S1.ms k2 e2 r1)
/-! range(a, b, -1) -/
theorem ws_forR3 {g : TG} {tA : TA} (h : WpA K Pm F tA Γ M fun ds M1 => ∃ a k : Nat, ds = [.int ((a + k : Nat) - 1 : Int), .int ((a : Int) - 1), .int (-1)] ∧ k ≤ 100000 ∧ a ≤ 100000 ∧ ∃ I : Nat → Ga → Mu → Prop, I 0 Γ M1 ∧
      (∀ (i : Nat) Γ' M', i < k → I i Γ' M' → ∃ Γ'', TgD K g (.int (a + (k - 1 - i) : Nat)) Γ' Γ'' ∧ WpS K Pm F ts Γ'' M' { n := I (i + 1), c := I (i + 1), b := P.n, r := P.r }) ∧
      ∀ Γ' M', I k Γ' M' → P.n Γ' M') : WpS K Pm F (tFor (iRng3 tA) g ts) Γ M P := fun H0 σ H D S n r b c =>
  h H0 σ H S _ fun vs H1 ds M1 ⟨a, k, hd, hz, hz', I, h0, ht, he⟩ S1 k1 r1 => by
    subst hd
    cases r1 with
    | cons r1 r2 =>
    cases r2 with
    | cons r2 r3 =>
    cases r3 with
    | cons r3 r4 =>
    cases r4
    cases r1
    cases r2
    cases r3
    have hrg : RgC (((a + k : Nat) - 1 : Int)) ((a : Int) - 1) (-1) k := by
      have := RgC.neg (i := ((a + k : Nat) - 1 : Int)) (j := (a : Int) - 1) (by omega) (by omega) (by omega) (by omega)
      have e : ((((a + k : Nat) - 1 : Int)) - ((a : Int) - 1)).toNat = k := by omega
      rw [e] at this
      exact this
    refine ⟨_, _, _, k, rfl, hrg, for_rangeC (lo := ((a + k : Nat) - 1 : Int)) (c := -1) (n := k) (fun i => Wd K Pm F M1 H0 H1 (I i)) ⟨Γ, M1, h0, S1, Same.refl _⟩ (fun i σ' H' hx p => ?_) fun σ' H' p => ?_⟩
    · obtain ⟨Γ', M', hI, S', k'⟩ := p
      obtain ⟨Γ'', tg, hb⟩ := ht i Γ' M' hx hI
      have e0 : ((a + k : Nat) - 1 : Int) + (i : Nat) * (-1) = ((a + (k - 1 - i) : Nat) : Int) := by omega
      rw [e0]
      refine tg _ σ' H' _ S'.s (.int _) _ fun σ2 s2 => ?_
      exact hb H0 σ2 H' _ ⟨S'.fr, S'.loc, S'.ms, s2⟩ (fun σ3 H3 Γ3 M3 hI3 S3 k3 => ⟨Γ3, M3, hI3, S3, k'.trans k3⟩) (fun v σ3 H3 Γ3 d M3 hR S3 k3 r3 => r v σ3 H3 Γ3 d M3 hR S3 ((k1.trans k').trans k3) r3)
        (fun σ3 H3 Γ3 M3 hb3 S3 k3 => n σ3 H3 Γ3 M3 hb3 S3 ((k1.trans k').trans k3)) (fun σ3 H3 Γ3 M3 hI3 S3 k3 => ⟨Γ3, M3, hI3, S3, k'.trans k3⟩)
    · obtain ⟨Γ', M', hI, S', k'⟩ := p
      exact n σ' H' Γ' M' (he Γ' M' hI) S' (k1.trans k')
end
end Dw
namespace Dw
open PySem L2 TL
/-- u: none from B on, or the same again after A -/
structure Per (u : Nat → Option Nat) (B A : Nat) : Prop where
  z : A = 0 → ∀ k, B ≤ k → u k = none
  p : 0 < A → ∀ k, B ≤ k → u (k + A) = u k
  s : 0 < A → ∀ k, u k ≠ none
theorem Per.agree {u v : Nat → Option Nat} {B A B' A' : Nat} (hu : Per u B A) (hv : Per v B' A') (h : ∀ k < max B B' + A + A', u k = v k) : ∀ k, u k = v k := by
  have l1 := Nat.le_max_left B B'
  have l2 := Nat.le_max_right B B'
  generalize max B B' = N at *
  by_cases a0 : A = 0
  · by_cases b0 : A' = 0
    · intro k
      by_cases hk : k < N
      · exact h k (by omega)
      · rw [hu.z a0 k (by omega), hv.z b0 k (by omega)]
    · have e := h N (by omega)
      rw [hu.z a0 N l1] at e
      exact absurd e.symm (hv.s (by omega) N)
  · by_cases b0 : A' = 0
    · have e := h N (by omega)
      rw [hv.z b0 N l2] at e
      exact absurd e (hu.s (by omega) N)
    · have pu := hu.p (by omega)
      have pv := hv.p (by omega)
      have step : ∀ m k, k = N + m → u (k + A') = u k := by
        intro m
        induction m using Nat.strongRecOn with
        | _ m ih =>
          intro k hk
          by_cases hlt : k < N + A
          · rw [h (k + A') (by omega), pv k (by omega), h k (by omega)]
          · have e1 := pu (k - A + A') (by omega)
            have e2 := pu (k - A) (by omega)
            rw [show k - A + A' + A = k + A' by omega] at e1
            rw [show k - A + A = k by omega] at e2
            rw [e1, ih (m - A) (by omega) (k - A) (by omega), e2]
      intro k
      induction k using Nat.strongRecOn with
      | _ k ih =>
        by_cases hk : k < N + A + A'
        · exact h k hk
        · have e1 := step (k - A' - N) (k - A') (by omega)
          have e2 := pv (k - A') (by omega)
          rw [show k - A' + A' = k by omega] at e1 e2
          rw [e1, ih (k - A') (by omega), e2]
/-- the values of a deck, by their numbers -/
def vU (w : Nat) (s : List Cd × List Nat) (n j : Nat) (k : Nat) : Option Nat := (findP w s n j k).map (·.2)
def oN : Option Nat → Dv
  | none => .non
  | some v => iN v
theorem ovD_oN (w : Nat) (s : List Cd × List Nat) (n j k : Nat) : ovD (findP w s n j k) = oN (vU w s n j k) := by
  unfold vU
  cases findP w s n j k <;> rfl
theorem oN_inj {a b : Option Nat} (h : oN a = oN b) : a = b := by
  cases a <;> cases b <;> first | rfl | (cases h; done) | (unfold oN at h; injection h with h; rw [Int.ofNat.inj h])
theorem ps_oN (a : Option Nat) : Ps 0 (oN a) := by cases a <;> trivial
theorem vU_far {w : Nat} {s : List Cd × List Nat} {n j k : Nat} (hj : j < n) (hk : (plN w s 0 j).length ≤ k) (h0 : 0 < (plN w s 0 n).length - (plN w s 0 j).length) :
    vU w s n j k = ((plN w s j (n - j))[(k - (plN w s 0 j).length) % ((plN w s 0 n).length - (plN w s 0 j).length)]?).map (·.2) := by
  have e := plN_cut (w := w) (s := s) (Nat.le_of_lt hj)
  have hl : (plN w s 0 n).length = (plN w s 0 j).length + (plN w s j (n - j)).length := by rw [e, List.length_append]
  have hA : (plN w s 0 n).length - (plN w s 0 j).length = (plN w s j (n - j)).length := by omega
  unfold vU
  by_cases h : (plN w s 0 n).length ≤ k
  · rw [findP_far hj h, hA, if_neg (by omega)]
    cases (plN w s j (n - j))[(k - (plN w s 0 j).length) % (plN w s j (n - j)).length]? <;> rfl
  · unfold findP
    rw [if_pos (by omega), hA, Nat.mod_eq_of_lt (by omega)]
    congr 1
    rw [e, List.getElem?_append_right hk]
theorem vU_per {D : Dk} (hD : D.ok) {s : List Cd × List Nat} {n j : Nat} (hj : j < n) : Per (vU D.w s n j) (plN D.w s 0 j).length ((plN D.w s 0 n).length - (plN D.w s 0 j).length) := by
  have e := plN_cut (w := D.w) (s := s) (Nat.le_of_lt hj)
  have hl : (plN D.w s 0 n).length = (plN D.w s 0 j).length + (plN D.w s j (n - j)).length := by rw [e, List.length_append]
  refine ⟨fun h k hk => ?_, fun h k hk => ?_, fun h k => ?_⟩
  · unfold vU
    rw [findP_far hj (by omega), if_pos (by omega)]
    rfl
  · rw [vU_far hj hk h, vU_far hj (by omega) h, show k + ((plN D.w s 0 n).length - (plN D.w s 0 j).length) - (plN D.w s 0 j).length = (k - (plN D.w s 0 j).length) + ((plN D.w s 0 n).length - (plN D.w s 0 j).length) by omega, Nat.add_mod_right]
  · by_cases hk : (plN D.w s 0 j).length ≤ k
    · rw [vU_far hj hk h]
      have hm := Nat.mod_lt (k - (plN D.w s 0 j).length) h
      rw [List.getElem?_eq_getElem (by omega)]
      exact fun z => nomatch z
    · unfold vU findP
      rw [if_pos (by omega), List.getElem?_eq_getElem (by omega)]
      exact fun z => nomatch z
/-- the first number at which two sequences differ -/
def FD (u v : Nat → Option Nat) : Option Nat → Prop
  | none => ∀ k, u k = v k
  | some k => u k ≠ v k ∧ ∀ i < k, u i = v i
theorem FD.uniq {u v : Nat → Option Nat} : ∀ {o o' : Option Nat}, FD u v o → FD u v o' → o = o'
  | none, none, _, _ => rfl
  | none, some k, h, h' => absurd (h k) h'.1
  | some k, none, h, h' => absurd (h' k) h.1
  | some k, some k', h, h' => by
    rcases Nat.lt_trichotomy k k' with z | z | z
    · exact absurd (h'.2 k z) h.1
    · rw [z]
    · exact absurd (h.2 k' z) h'.1
theorem FD.symm {u v : Nat → Option Nat} : ∀ {o : Option Nat}, FD u v o → FD v u o
  | none, h => fun k => (h k).symm
  | some _, h => ⟨fun e => h.1 e.symm, fun i hi => (h.2 i hi).symm⟩
theorem FD.refl (u : Nat → Option Nat) : FD u u none := fun _ => rfl
theorem fd_ex (u v : Nat → Option Nat) : ∃ o, FD u v o := by
  by_cases h : ∀ k, u k = v k
  · exact ⟨none, h⟩
  · have ⟨k, hk⟩ : ∃ k, u k ≠ v k := Classical.not_forall.mp h
    have least : ∀ m, u m ≠ v m → ∃ k, u k ≠ v k ∧ ∀ i < k, u i = v i := by
      intro m
      induction m using Nat.strongRecOn with
      | _ m ih =>
        intro hm
        by_cases z : ∀ i < m, u i = v i
        · exact ⟨m, hm, z⟩
        · obtain ⟨i, hi⟩ := Classical.not_forall.mp z
          obtain ⟨hi1, hi2⟩ := Classical.not_imp.mp hi
          exact ih i hi1 hi2
    obtain ⟨k, h1, h2⟩ := least k hk
    exact ⟨some k, h1, h2⟩
def fdD (u v : Nat → Option Nat) : Option Nat → Dv
  | none => .non
  | some k => .tup [iN k, oN (u k), oN (v k)]
theorem fdD_isN (u v : Nat → Option Nat) (o : Option Nat) : (fdD u v o).isN = o.isNone := by cases o <;> rfl
theorem ps_fdD (u v : Nat → Option Nat) (o : Option Nat) : Ps 1 (fdD u v o) := by
  cases o with
  | none => trivial
  | some k =>
    intro x hx
    simp only [List.mem_cons, List.not_mem_nil, or_false] at hx
    rcases hx with rfl | rfl | rfl
    · trivial
    · exact ps_oN _
    · exact ps_oN _
def S_first_difference (a : Ads) : DS := fun ds M R => ∃ (x y : Str) (D E : Dk) (n j n' j' : Nat) (o : Option Nat), ds = [.str x, .str y] ∧ M = [] ∧ TxOk x D ∧ TxOk y E ∧ Cyc D.w (st0 D) n j ∧ n ≤ 3000 ∧ Cyc E.w (st0 E) n' j' ∧ n' ≤ 3000 ∧
  FD (vU D.w (st0 D) n j) (vU E.w (st0 E) n' j') o ∧ R (fdD (vU D.w (st0 D) n j) (vU E.w (st0 E) n' j') o) []
def S_are_equal (a : Ads) : DS := fun ds M R => ∃ (x y : Str) (D E : Dk) (n j n' j' : Nat) (o : Option Nat), ds = [.str x, .str y] ∧ M = [] ∧ TxOk x D ∧ TxOk y E ∧ Cyc D.w (st0 D) n j ∧ n ≤ 3000 ∧ Cyc E.w (st0 E) n' j' ∧ n' ≤ 3000 ∧
  FD (vU D.w (st0 D) n j) (vU E.w (st0 E) n' j') o ∧ R (.bl o.isNone) []
/-! states that come again, ways between states -/
def S_comes_again (a : Ads) : DS := fun ds M R => ∃ (x : Str) (D : Dk) (s : List Cd × List Nat) (n j : Nat), ds = [.str x, stD s.1 s.2] ∧ M = [] ∧ TxOk x D ∧ BegOk D (some s) ∧ Cyc D.w s n j ∧ n ≤ 3000 ∧ R (.bl (decide (j = 0))) []
/-- the place of t among the first n states from s -/
def Way (w : Nat) (s t : List Cd × List Nat) (n : Nat) : Option Nat → Prop
  | none => ∀ i < n, itS w i s ≠ t
  | some k => k < n ∧ itS w k s = t ∧ ∀ i < k, itS w i s ≠ t
def S_reaches (a : Ads) : DS := fun ds M R => ∃ (x : Str) (D : Dk) (s t : List Cd × List Nat) (n j : Nat) (o : Option Nat), ds = [.str x, stD s.1 s.2, stD t.1 t.2] ∧ M = [] ∧ TxOk x D ∧ BegOk D (some s) ∧ BegOk D (some t) ∧ Cyc D.w s n j ∧ n ≤ 3000 ∧ Way D.w s t n o ∧ R (oN o) []
theorem way_ex (w : Nat) (s t : List Cd × List Nat) (n : Nat) : ∃ o, Way w s t n o := by
  by_cases h : ∀ i < n, itS w i s ≠ t
  · exact ⟨none, h⟩
  · have least : ∀ m, m < n → itS w m s = t → ∃ k, k < n ∧ itS w k s = t ∧ ∀ i < k, itS w i s ≠ t := by
      intro m
      induction m using Nat.strongRecOn with
      | _ m ih =>
        intro hn hm
        by_cases z : ∀ i < m, itS w i s ≠ t
        · exact ⟨m, hn, hm, z⟩
        · obtain ⟨i, hi⟩ := Classical.not_forall.mp z
          obtain ⟨hi1, hi2⟩ := Classical.not_imp.mp hi
          exact ih i hi1 (by omega) (Classical.not_not.mp hi2)
    obtain ⟨i, hi⟩ := Classical.not_forall.mp h
    obtain ⟨hi1, hi2⟩ := Classical.not_imp.mp hi
    obtain ⟨k, h1⟩ := least i hi1 (Classical.not_not.mp hi2)
    exact ⟨some k, h1⟩
/-- states as data -/
theorem strOkA {D : Dk} (hD : D.ok) {c : Cd} (h : c ∈ D.cs) : PyData.strOk c.nm = true := by
  have key : ∀ s ∈ namesA, PyData.strOk s = true := by decide +kernel
  exact key _ (hD.cs c h).nm
theorem ps_st {D : Dk} (hD : D.ok) {o : List Cd} {v : List Nat} (ho : ∀ c ∈ o, c ∈ D.cs) : Ps 2 (stD o v) := by
  intro x hx
  simp only [List.mem_cons, List.not_mem_nil, or_false] at hx
  rcases hx with rfl | rfl
  · intro y hy
    obtain ⟨c, hc, rfl⟩ := List.mem_map.mp hy
    exact strOkA hD (ho c hc)
  · intro y hy
    obtain ⟨c, hc, rfl⟩ := List.mem_map.mp hy
    trivial
theorem StOk.ps {D : Dk} (hD : D.ok) {s : List Cd × List Nat} (h : StOk D s) : Ps 2 (stD s.1 s.2) := ps_st hD fun c hc => h.pm.mem_iff.mp hc
theorem stD_inj {D : Dk} (hD : D.ok) {s t : List Cd × List Nat} (hs : StOk D s) (ht : StOk D t) (h : stD s.1 s.2 = stD t.1 t.2) : s = t := kS_inj hD hs ht (congrArg nkD h)
theorem stD_iff {D : Dk} (hD : D.ok) {s t : List Cd × List Nat} (hs : StOk D s) (ht : StOk D t) : stD s.1 s.2 = stD t.1 t.2 ↔ s = t := ⟨stD_inj hD hs ht, fun h => by rw [h]⟩
theorem ps_stL {D : Dk} (hD : D.ok) {s : List Cd × List Nat} (hs : StOk D s) (n : Nat) : ∀ e ∈ stL D.w s n, Ps 2 e := by
  intro e he
  obtain ⟨i, _, rfl⟩ := List.mem_map.mp he
  exact (hs.its i).ps hD
theorem mem_stL {D : Dk} (hD : D.ok) {s t : List Cd × List Nat} (hs : StOk D s) (ht : StOk D t) (n : Nat) : stD t.1 t.2 ∈ stL D.w s n ↔ ∃ i < n, itS D.w i s = t := by
  constructor
  · intro h
    obtain ⟨i, hi, e⟩ := List.mem_map.mp h
    exact ⟨i, List.mem_range.mp hi, stD_inj hD (hs.its i) ht e⟩
  · rintro ⟨i, hi, e⟩
    refine List.mem_map.mpr ⟨i, List.mem_range.mpr hi, ?_⟩
    rw [e]
theorem Way.none_iff {w : Nat} {s t : List Cd × List Nat} {n : Nat} {o : Option Nat} (h : Way w s t n o) : (∃ i < n, itS w i s = t) ↔ o.isSome = true := by
  cases o with
  | none => exact ⟨fun ⟨i, hi, e⟩ => absurd e (h i hi), fun z => nomatch z⟩
  | some k => exact ⟨fun _ => rfl, fun _ => ⟨k, h.1, h.2.1⟩⟩
theorem Way.uniq {w : Nat} {s t : List Cd × List Nat} {n : Nat} : ∀ {o o' : Option Nat}, Way w s t n o → Way w s t n o' → o = o'
  | none, none, _, _ => rfl
  | none, some k, h, h' => absurd h'.2.1 (h k h'.1)
  | some k, none, h, h' => absurd h.2.1 (h' k h.1)
  | some k, some k', h, h' => by
    rcases Nat.lt_trichotomy k k' with z | z | z
    · exact absurd h.2.1 (h'.2.2 k z)
    · rw [z]
    · exact absurd h'.2.1 (h.2.2 k' z)
end Dw
namespace Dw
open PySem L2 TL
section
variable {K : PySem.W.Frag} {Pm F : List Addr} {M : Mu} {Γ : Ga} {te to : TE} {x y z d : Dv} {R : Dv → Mu → Prop} {P : Po} {H0 H H' : Hp} {σ : L2.St}
theorem ed_callD {n m k : Nat} {S : DS} {tA : TA} {E : XK} {ds : List Dv} (hk : n + m = k) (h : EvA K F M tA Γ ds) (hn : ds.length = n) (hs : S (ds ++ List.replicate m .non) [] fun d' N => d' = d ∧ N = []) : EvD K F M (tCall (spD K k S) (List.replicate m V.non) E tA) Γ d := fun σ H m0 s Q q =>
  h σ H m0 s _ fun vs H1 e1 r1 => by
    have m1 := m0.mono e1
    refine ⟨ads M ++ F, [], ds ++ List.replicate m .non, _, ?_, ⟨fun q hq => (nomatch hq), List.nodup_nil, fun a ha => ?_, fun a _ hm => (nomatch hm)⟩, ?_, hs, fun v H2 d' N M2 hR ha hnew hf hm r2 => ?_⟩
    · rw [List.length_append, r1.len, hn, List.length_replicate]; exact hk
    · rcases List.mem_append.mp ha with z | z
      · obtain ⟨q', hq, e⟩ := List.mem_map.mp z
        rw [← e]
        exact (m1.ok q' hq).there
      · exact m1.ff a z
    · exact r1.app (rpl_non _ m)
    · obtain ⟨rfl, e0⟩ := hR
      have e : Same H1 H2 := fun a o => hf a o (fun z => nomatch z)
      rw [e0] at r2
      exact q v H2 (e1.trans e) r2
theorem ed_callN {n m k : Nat} {S : DS} {t tk : TA} {E : XK} {ds es : List Dv} (hk : n + m = k) (h : EvA K F M t Γ ds) (h2 : EvA K F M tk Γ es) (hn : ds.length = n) (hm : es.length = m) (hs : S (ds ++ es) [] fun d' N => d' = d ∧ N = []) : EvD K F M (tCallN n m (spD K k S) (fun us ws => us ++ ws) E t tk) Γ d := fun σ H m0 s Q q =>
  h σ H m0 s _ fun vs H1 e1 r1 => h2 σ H1 (m0.mono e1) (s.mono e1) _ fun zs H2 e2 r2 => by
    have m1 := (m0.mono e1).mono e2
    refine ⟨by rw [r1.len]; exact hn, by rw [r2.len]; exact hm, ads M ++ F, [], ds ++ es, _, ?_, ⟨fun q hq => (nomatch hq), List.nodup_nil, fun a ha => ?_, fun a _ hm => (nomatch hm)⟩, ?_, hs, fun v H3 d' N M2 hR ha hnew hf hm r3 => ?_⟩
    · show (vs ++ zs).length = k
      rw [List.length_append, r1.len, r2.len, hn, hm]; exact hk
    · rcases List.mem_append.mp ha with z | z
      · obtain ⟨q', hq, e⟩ := List.mem_map.mp z
        rw [← e]
        exact (m1.ok q' hq).there
      · exact m1.ff a z
    · exact (r1.mono (hid_same e2)).app r2
    · obtain ⟨rfl, e0⟩ := hR
      have e : Same H2 H3 := fun a o => hf a o (fun z => nomatch z)
      rw [e0] at r3
      exact q v H3 ((e1.trans e2).trans e) r3
end
theorem ps_trE {D : Dk} (hD : D.ok) {s : List Cd × List Nat} (hs : StOk D s) : ∀ n, ∀ e ∈ trE D.w s n, Ps 2 e
  | 0, _, h => nomatch h
  | n + 1, e, h => by
    rcases List.mem_append.mp h with z | z
    · exact ps_trE hD hs n e z
    · rw [List.mem_singleton] at z
      subst z
      intro y hy
      simp only [List.mem_cons, List.not_mem_nil, or_false] at hy
      rcases hy with rfl | rfl | rfl
      · obtain ⟨c, r, v, e, hc, _⟩ := (hs.its n).cons hD
        rw [e]
        exact strOkA hD hc
      · intro u hu
        obtain ⟨v, _, rfl⟩ := List.mem_map.mp hu
        trivial
      · trivial
theorem vU_none {D : Dk} (hD : D.ok) {s : List Cd × List Nat} {n j k : Nat} (hj : j < n) (h : vU D.w s n j k = none) : (plN D.w s 0 n).length = (plN D.w s 0 j).length ∧ (plN D.w s 0 n).length ≤ k := by
  have hP := vU_per hD (s := s) hj
  have e := plN_cut (w := D.w) (s := s) (Nat.le_of_lt hj)
  have hl : (plN D.w s 0 n).length = (plN D.w s 0 j).length + (plN D.w s j (n - j)).length := by rw [e, List.length_append]
  have h0 : (plN D.w s 0 n).length = (plN D.w s 0 j).length := by
    rcases Nat.eq_zero_or_pos ((plN D.w s 0 n).length - (plN D.w s 0 j).length) with z | z
    · omega
    · exact absurd h (hP.s z k)
  refine ⟨h0, ?_⟩
  rcases Nat.lt_or_ge k (plN D.w s 0 n).length with z | z
  · unfold vU findP at h
    rw [if_pos z, List.getElem?_eq_getElem z] at h
    cases h
  · exact z
theorem vU_none_of {D : Dk} (hD : D.ok) {s : List Cd × List Nat} {n j k : Nat} (hj : j < n) (h0 : (plN D.w s 0 n).length = (plN D.w s 0 j).length) (h : (plN D.w s 0 n).length ≤ k) : vU D.w s n j k = none :=
  (vU_per hD (s := s) hj).z (by omega) k (by omega)
theorem vU_isNone {w : Nat} {s : List Cd × List Nat} {n j k : Nat} : vU w s n j k = none ↔ findP w s n j k = none := by
  unfold vU
  cases findP w s n j k <;> simp
/-- the first values, as far as there are any -/
theorem fvL_char {D : Dk} (hD : D.ok) {s : List Cd × List Nat} {n j : Nat} (hj : j < n) : ∀ m, ∃ c, c ≤ m ∧ fvL D.w s n j m = (List.range c).map (fun k => oN (vU D.w s n j k)) ∧ (∀ k < c, vU D.w s n j k ≠ none) ∧ (c < m → vU D.w s n j c = none)
  | 0 => ⟨0, Nat.le_refl _, rfl, fun k h => absurd h (Nat.not_lt_zero _), fun h => absurd h (Nat.lt_irrefl _)⟩
  | m + 1 => by
    obtain ⟨c, h1, h2, h3, h4⟩ := fvL_char hD (s := s) hj m
    have e : fvL D.w s n j (m + 1) = fvL D.w s n j m ++ (if (oN (vU D.w s n j m)).isN then [] else [oN (vU D.w s n j m)]) := by
      unfold fvL
      rw [List.range_succ, List.map_append, List.filter_append, List.map_cons, List.map_nil, ovD_oN]
      cases vU D.w s n j m <;> rfl
    by_cases hv : vU D.w s n j m = none
    · refine ⟨c, by omega, ?_, h3, fun _ => ?_⟩
      · rw [e, hv, h2]
        exact List.append_nil _
      · rcases Nat.lt_or_ge c m with z | z
        · exact h4 z
        · have : c = m := by omega
          rw [this]; exact hv
    · have hc : c = m := by
        rcases Nat.lt_or_ge c m with z | z
        · obtain ⟨a1, a2⟩ := vU_none hD hj (h4 z)
          exact absurd (vU_none_of hD hj a1 (by omega)) hv
        · omega
      subst hc
      refine ⟨c + 1, by omega, ?_, fun k hk => ?_, fun h => absurd h (Nat.lt_irrefl _)⟩
      · rw [e, h2, List.range_succ, List.map_append]
        cases h : vU D.w s n j c with
        | none => exact absurd h hv
        | some v =>
          show _ ++ [oN (some v)] = _ ++ [oN (vU D.w s n j c)]
          rw [h]
      · rcases Nat.lt_or_ge k c with z | z
        · exact h3 k z
        · have : k = c := by omega
          rw [this]; exact hv
/-- each step is some card's -/
theorem sum_acts {D : Dk} (hD : D.ok) {s : List Cd × List Nat} (hs : StOk D s) : ∀ m, (D.cs.map fun c => wsum (wtN c.nm) D.w s m).sum = m
  | 0 => by
    have : ∀ l : List Cd, (l.map fun c => wsum (wtN c.nm) D.w s 0).sum = 0 := fun l => by
      induction l with
      | nil => rfl
      | cons c l ih => rw [List.map_cons, List.sum_cons, ih]; rfl
    exact this _
  | m + 1 => by
    have ih := sum_acts hD hs m
    obtain ⟨c, r, v, e, hc, _⟩ := (hs.its m).cons hD
    have one : ∀ l : List Cd, (l.map (·.nm)).Nodup → (l.map fun d => wsum (wtN d.nm) D.w s (m + 1)).sum = (l.map fun d => wsum (wtN d.nm) D.w s m).sum + if c.nm ∈ l.map (·.nm) then 1 else 0 := by
      intro l
      induction l with
      | nil => intro _; rfl
      | cons d l ihl =>
        intro nd
        rw [List.map_cons, List.nodup_cons] at nd
        rw [List.map_cons, List.sum_cons, List.map_cons, List.sum_cons, ihl nd.2, List.map_cons]
        have e1 : wsum (wtN d.nm) D.w s (m + 1) = wsum (wtN d.nm) D.w s m + wtN d.nm c := by
          show _ + wt1 _ (itS D.w m s) = _
          rw [e]
          rfl
        have e3 : wtN d.nm c = if c.nm = d.nm then 1 else 0 := rfl
        rw [e1, e3]
        by_cases h : c.nm = d.nm
        · have e4 : c.nm ∉ l.map (·.nm) := by rw [h]; exact nd.1
          have e5 : c.nm ∈ d.nm :: l.map (·.nm) := by rw [h]; exact List.mem_cons_self ..
          rw [if_pos h, if_pos e5, if_neg e4]
          omega
        · by_cases h2 : c.nm ∈ l.map (·.nm)
          · rw [if_neg h, if_pos h2, if_pos (List.mem_cons_of_mem _ h2)]; omega
          · rw [if_neg h, if_neg h2, if_neg (fun z => by rcases List.mem_cons.mp z with z | z; exact h z; exact h2 z)]
            omega
    rw [one D.cs hD.nd, ih, if_pos (List.mem_map.mpr ⟨c, hc, rfl⟩)]
theorem acts_zero {w : Nat} {s : List Cd × List Nat} {x : Str} (hx : x ≠ "") : ∀ m, wsum (wtN x) w s m = 0 ↔ x ∉ nmL w s m
  | 0 => ⟨fun _ h => by simp [nmL] at h, fun _ => rfl⟩
  | m + 1 => by
    have ih := acts_zero (w := w) (s := s) hx m
    have e : nmL w s (m + 1) = nmL w s m ++ [nm0 (itS w m s)] := by
      unfold nmL
      rw [List.range_succ, List.map_append]
      rfl
    rw [e, List.mem_append, List.mem_singleton]
    show wsum (wtN x) w s m + wt1 (wtN x) (itS w m s) = 0 ↔ _
    have e2 : wt1 (wtN x) (itS w m s) = if nm0 (itS w m s) = x then 1 else 0 := by
      unfold wt1 nm0 wtN
      cases (itS w m s).1 with
      | nil => rw [if_neg fun z => hx z.symm]
      | cons c r => rfl
    rw [e2]
    constructor
    · intro h z
      rcases z with z | z
      · exact ih.mp (by omega) z
      · rw [if_pos z.symm] at h; omega
    · intro h
      rw [ih.mpr fun z => h (.inl z), if_neg fun z => h (.inr z.symm)]
theorem nm_ne {D : Dk} (hD : D.ok) {c : Cd} (h : c ∈ D.cs) : c.nm ≠ "" := by
  have key : ∀ s ∈ namesA, s ≠ "" := by decide +kernel
  exact key _ (hD.cs c h).nm
/-- from a state far on -/
theorem Cyc.from {w : Nat} {s : List Cd × List Nat} {n j m : Nat} (h : Cyc w s n j) (hm : j ≤ m) : Cyc w (itS w m s) (n - j) 0 := by
  have hlt := h.lt
  rw [h.far hm]
  exact h.inside (Nat.mod_lt _ (by omega))
theorem Cyc.back {w : Nat} {s : List Cd × List Nat} {n j m : Nat} (h : Cyc w s n j) (hm : j ≤ m) (q : Nat) : itS w (m + q * (n - j)) s = itS w m s := by
  have e := h.wrap (m - j) q
  rw [show j + (m - j) = m by omega] at e
  exact e
theorem Cyc.turns {w : Nat} {s : List Cd × List Nat} {n j m : Nat} (h : Cyc w s n j) (hm : j ≤ m) (wt : Cd → Nat) (q : Nat) : wsum wt w s (m + q * (n - j)) = wsum wt w s m + q * (wsum wt w s n - wsum wt w s j) := by
  have e := h.rounds wt (m - j) q
  rw [show j + (m - j) = m by omega] at e
  exact e
/-- as kIe, by a test of the name -/
def kNm (p : Str → Bool) (d : Dv) : Bool := match d with
  | .str x => p x
  | _ => false
theorem kNm_list (p : Str → Bool) : ∀ cs : List Cd, ((cs.map nmD).filter (kNm p)).map id = (cs.filter fun c => p c.nm).map nmD
  | [] => rfl
  | c :: cs => by
    have ih := kNm_list p cs
    rw [List.map_cons]
    by_cases h : p c.nm = true
    · rw [List.filter_cons_of_pos (by exact h), List.filter_cons_of_pos (p := fun c : Cd => p c.nm) h, List.map_cons, List.map_cons, ih]
      rfl
    · rw [List.filter_cons_of_neg (by exact h), List.filter_cons_of_neg (p := fun c : Cd => p c.nm) h, ih]
end Dw
namespace Dw
open PySem L2 TL
/-- the first m values by their numbers -/
theorem fvL_get {D : Dk} (hD : D.ok) {s : List Cd × List Nat} {n j m : Nat} (hj : j < n) {k : Nat} (hk : k < m) : (if k < (fvL D.w s n j m).length then (fvL D.w s n j m).getD k .non else .non) = oN (vU D.w s n j k) := by
  obtain ⟨c, h1, h2, h3, h4⟩ := fvL_char hD (s := s) hj m
  rw [h2, List.length_map, List.length_range]
  by_cases hc : k < c
  · rw [if_pos hc, List.getD_eq_getElem?_getD, List.getElem?_map, List.getElem?_range hc]
    rfl
  · rw [if_neg hc]
    have hn := h4 (by omega)
    obtain ⟨a1, a2⟩ := vU_none hD hj hn
    rw [vU_none_of hD hj a1 (by omega)]
    rfl
theorem fvL_end {D : Dk} (hD : D.ok) {s : List Cd × List Nat} {n j m : Nat} (hj : j < n) {k : Nat} (hk : k < m) : (fvL D.w s n j m).length ≤ k ↔ vU D.w s n j k = none := by
  obtain ⟨c, h1, h2, h3, h4⟩ := fvL_char hD (s := s) hj m
  rw [h2, List.length_map, List.length_range]
  constructor
  · intro h
    obtain ⟨a1, a2⟩ := vU_none hD hj (h4 (by omega))
    exact vU_none_of hD hj a1 (by omega)
  · intro h
    rcases Nat.lt_or_ge k c with z | z
    · exact absurd h (h3 k z)
    · exact z
theorem fvL_le {w : Nat} {s : List Cd × List Nat} {n j m : Nat} : (fvL w s n j m).length ≤ m := by
  unfold fvL
  refine Nat.le_trans (List.length_filter_le ..) ?_
  rw [List.length_map, List.length_range]
  exact Nat.le_refl _
/-- walking down from L: the last one found that differs -/
inductive Dwn (u v : Nat → Option Nat) (L : Nat) : Nat → Option Nat → Prop
  | nil : Dwn u v L 0 none
  | ne {i : Nat} {o : Option Nat} : Dwn u v L i o → u (L - 1 - i) ≠ v (L - 1 - i) → Dwn u v L (i + 1) (some (L - 1 - i))
  | eq {i : Nat} {o : Option Nat} : Dwn u v L i o → u (L - 1 - i) = v (L - 1 - i) → Dwn u v L (i + 1) o
def DwnI (u v : Nat → Option Nat) (L i : Nat) : Option Nat → Prop
  | none => ∀ k, L - i ≤ k → k < L → u k = v k
  | some k => L - i ≤ k ∧ k < L ∧ u k ≠ v k ∧ ∀ m, L - i ≤ m → m < k → u m = v m
theorem Dwn.inv {u v : Nat → Option Nat} {L : Nat} {i : Nat} {o : Option Nat} (h : Dwn u v L i o) : i ≤ L → DwnI u v L i o := by
  induction h with
  | nil => exact fun _ k h1 h2 => by omega
  | @ne i o h hne ih => exact fun hi => ⟨by omega, by omega, hne, fun m h1 h2 => by omega⟩
  | @eq i o h he ih =>
    intro hi
    have ih := ih (by omega)
    cases o with
    | none =>
      intro k h1 h2
      rcases Nat.lt_or_ge k (L - i) with z | z
      · have : k = L - 1 - i := by omega
        rw [this]; exact he
      · exact ih k z h2
    | some q =>
      obtain ⟨h1, h2, h3, h4⟩ := ih
      refine ⟨by omega, h2, h3, fun m m1 m2 => ?_⟩
      rcases Nat.lt_or_ge m (L - i) with z | z
      · have : m = L - 1 - i := by omega
        rw [this]; exact he
      · exact h4 m z m2
/-- down to 0, from where both end or as many as asked -/
theorem Dwn.fd {u v : Nat → Option Nat} {L m : Nat} {o : Option Nat} (h : Dwn u v L L o) (hL : ∀ k, L ≤ k → k < m → u k = v k) (hm : (∀ k < m, u k = v k) → ∀ k, u k = v k) : FD u v o := by
  have inv := h.inv (Nat.le_refl _)
  cases o with
  | none =>
    refine hm fun k hk => ?_
    rcases Nat.lt_or_ge k L with z | z
    · exact inv k (by omega) z
    · exact hL k z hk
  | some k => exact ⟨inv.2.2.1, fun i hi => inv.2.2.2 i (by omega) hi⟩
theorem eqd_oN {M : Mu} {n : Nat} (o : Option Nat) : Eqd M n (oN o) (oN o) := by cases o with
  | none => exact .non
  | some v => exact .int _
theorem eqd_fdD {M : Mu} {n : Nat} (u v : Nat → Option Nat) (o : Option Nat) : Eqd M (n + 1) (fdD u v o) (fdD u v o) := by
  cases o with
  | none => exact .non
  | some k =>
    refine .tup rfl (Nat.le_of_ble_eq_true rfl) fun i x d hx hd => ?_
    rw [hx] at hd
    cases hd
    match i, hx with
    | 0, h => cases h; exact .int _
    | 1, h => cases h; exact eqd_oN _
    | 2, h => cases h; exact eqd_oN _
end Dw
namespace L2
open PySem PySem.Spec PyProof.Rows
/-- what a clause does: its source, its target, its tests, the names of it and of those behind it -/
abbrev Cl := TI × TG × TT × List Nat
def tIn (te : TE) (D : Addr) : List Cl → St → Hp → (Hp → Prop) → Prop
  | [], σ, H, Nx => te σ H fun y H4 => ∃ acc, H4 D = some (.lst acc) ∧ acc.length < sizeLine ∧ Nx (upd H4 D (.lst (acc ++ [y])))
  | (wi, g, tt, vs) :: r, σ, H, Nx => wi σ H fun J H1 => ∃ W : Nat → Nat → Hp → Prop, (∃ m, W 0 m H1) ∧ ∀ j k H, W j k H →
      (J.stop j H ∧ Nx H) ∨ (J.go j H ∧ ∃ Ny : Hp → Prop, (∀ H', Ny H' → ∃ k', k' < k ∧ W (j + 1) k' H') ∧ ∀ x H', J.yld j H x H' → g x (wipe σ vs) H' fun σ3 H5 => wipe σ3 vs = wipe σ vs ∧ tt σ3 H5 fun b H6 =>
        if b = true then tIn te D r σ3 H6 Ny else Ny H6)
def tLcN (wi : TI) (g : TG) (tt : TT) (vs : List Nat) (te : TE) (ks : List Cl) : TE := fun σ H Q => wi σ H fun J H1 => ∀ D, H1 D = none → ∃ W : Nat → Nat → Hp → Prop, (∃ m, W 0 m (upd H1 D (.lst []))) ∧ ∀ i m H, W i m H →
  (J.stop i H ∧ Q (.ref D) H) ∨ (J.go i H ∧ ∃ Nx : Hp → Prop, (∀ H', Nx H' → ∃ m', m' < m ∧ W (i + 1) m' H') ∧ ∀ x H', J.yld i H x H' → g x (wipe σ vs) H' fun σ2 H2 => wipe σ2 vs = wipe σ vs ∧ tt σ2 H2 fun b H3 =>
    if b = true then tIn te D ks σ2 H3 Nx else Nx H3)
/-- a turn of a clause that another one follows -/
def OutAt (e : Expr) (d : Nat) (c c' : Comprehension) : Prop := ∀ (it acc : Value) (env : Env), compTurn e d it acc env = (do
      standAt c.iter.pos
      match ← pyNext it with
      | none => pure (.done .next)
      | some v =>
        letOwnedTupleGo c.target it v
        assign c.target env v
        let mut ok := true
        for q in c.ifs do
          if ok then ok ← isTrue q env (eval q env)
        if ok then
          let x ← eval c'.iter env
          standAt c'.iter.pos
          let x ← foldedSetIterable c'.iter env x
          let _ ← runOwn (.compStart e (d + 1) (← holding [x] (pyIter x)) acc env) env
        again (.compLoop e d it acc env))
/-- a turn of the last clause -/
def InAt (e elt : Expr) (d : Nat) (c : Comprehension) : Prop := ∀ (it acc : Value) (env : Env), compTurn e d it acc env = (do
      standAt c.iter.pos
      match ← pyNext it with
      | none => pure (.done .next)
      | some v =>
        letOwnedTupleGo c.target it v
        assign c.target env v
        let mut ok := true
        for q in c.ifs do
          if ok then ok ← isTrue q env (eval q env)
        if ok then
          (do let _ ← call (.builtin "list.append") [acc, ← eval elt env])
        again (.compLoop e d it acc env))
/-- the clauses from d on -/
def Chain (e elt : Expr) : Nat → Comprehension → List Comprehension → Prop
  | d, c, [] => InAt e elt d c
  | d, c, c' :: r => OutAt e d c c' ∧ Chain e elt (d + 1) c' r
section
variable {prog : Program} {w : World} {A : Around} {R : Result → Shared → Prop} {s : Shared} {elt : Expr} {gens : List Comprehension} {scope : Scope} {pos : Pos} {it acc : Value} {env : Env} {d : Nat} {c c' : Comprehension}
theorem loop_out (ho : OutAt (.ListComp elt gens scope pos) d c c') (hs : ∀ x, foldedSetIterable c'.iter env x = pure x) (I : Nat → Shared → Prop)
    (turn : ∀ n s, I n s → wpAny (model prog w) A (pyNext it) (fun r z1 => match r with
      | none => R (.ok .next) z1
      | some v => wpAny (model prog w) A (letOwnedTupleGo c.target it v) (fun _ z1' => wpAny (model prog w) A (assign c.target env v) (fun _ z2 =>
          wpAny (model prog w) A (forIn c.ifs true fun c r => if r = true then do let ok ← isTrue c env (eval c env); pure (ForInStep.yield ok) else pure (ForInStep.yield r)) (fun ok z3 =>
            if ok = true then wpAny (model prog w) A (eval c'.iter env) (fun x z4 => wpAny (model prog w) A (pyIter x) (fun itr z5 =>
              codeAny (model prog w) A (.compStart (.ListComp elt gens scope pos) (d + 1) itr acc env) (fun r s' => match r with
                | .ok _ => ∃ m, m < n ∧ I m s'
                | .error _ => False) z5) (notedBy (model prog w) A env fun e s' => R (.error e) s') z4) (notedBy (model prog w) A env fun e s' => R (.error e) s') z3
            else ∃ m, m < n ∧ I m z3) (notedBy (model prog w) A env fun e s' => R (.error e) s') z2) (notedBy (model prog w) A env fun e s' => R (.error e) s') z1') (notedBy (model prog w) A env fun e s' => R (.error e) s') z1) (notedBy (model prog w) A env fun e s' => R (.error e) s') s)
    (n : Nat) (h : I n s) :
    codeAny (model prog w) A (.compLoop (.ListComp elt gens scope pos) d it acc env) R s := by
  refine codeAny_loop rfl I (fun n s hI => ?_) n h
  show wpAny _ A ((compTurn (.ListComp elt gens scope pos) d it acc env).onRaise (fun x => do noteFrame x env; theTreesLotGoes x)) _ _ s
  refine wpAny_noted ?_
  rw [ho]
  refine wpAny_bind (wpAny_standAt (wpAny_bind (wpAny_mono (turn n s hI) (fun r z1 h₁ => ?_) fun _ _ h' => h')))
  cases r with
  | none => exact wpAny_pure h₁
  | some v =>
    refine wpAny_bind (wpAny_mono h₁ (fun _ z1' h₁' => ?_) fun _ _ h' => h')
    refine wpAny_bind (wpAny_mono h₁' (fun _ z2 h₂ => wpAny_bind (wpAny_mono h₂ (fun ok z3 h₃ => ?_) fun _ _ h' => h')) fun _ _ h' => h')
    cases ok with
    | false => exact wpAny_pure ⟨rfl, h₃⟩
    | true =>
      refine wpAny_bind (wpAny_mono h₃ (fun x z4 h₄ => ?_) fun _ _ h' => h')
      refine wpAny_bind (wpAny_standAt (wpAny_bind (wpAny_of_eq (hs x) (wpAny_bind (wpAny_holding (wpAny_mono h₄ (fun itr z5 h₅ => ?_) fun _ _ h' => h'))))))
      refine wpAny_bind (wpAny_runOwn ?_)
      rw [Around.mark_none]
      refine codeAny_mono h₅ fun r s' hr => ?_
      cases r with
      | ok f =>
        first
          | exact wpAny_pure ⟨rfl, hr⟩
          | exact wpAny_bind (wpAny_pure (wpAny_pure ⟨rfl, hr⟩))
      | error e => exact hr.elim
theorem loop_in (ho : InAt (.ListComp elt gens scope pos) elt d c) (I : Nat → Shared → Prop)
    (turn : ∀ n s, I n s → wpAny (model prog w) A (pyNext it) (fun r z1 => match r with
      | none => R (.ok .next) z1
      | some v => wpAny (model prog w) A (letOwnedTupleGo c.target it v) (fun _ z1' => wpAny (model prog w) A (assign c.target env v) (fun _ z2 =>
          wpAny (model prog w) A (forIn c.ifs true fun c r => if r = true then do let ok ← isTrue c env (eval c env); pure (ForInStep.yield ok) else pure (ForInStep.yield r)) (fun ok z3 =>
            if ok = true then wpAny (model prog w) A (eval elt env) (fun x z4 =>
              wpAny (model prog w) A (call (.builtin "list.append") [acc, x]) (fun _ z5 => ∃ m, m < n ∧ I m z5) (notedBy (model prog w) A env fun e s' => R (.error e) s') z4) (notedBy (model prog w) A env fun e s' => R (.error e) s') z3
            else ∃ m, m < n ∧ I m z3) (notedBy (model prog w) A env fun e s' => R (.error e) s') z2) (notedBy (model prog w) A env fun e s' => R (.error e) s') z1') (notedBy (model prog w) A env fun e s' => R (.error e) s') z1) (notedBy (model prog w) A env fun e s' => R (.error e) s') s)
    (n : Nat) (h : I n s) :
    codeAny (model prog w) A (.compLoop (.ListComp elt gens scope pos) d it acc env) R s := by
  refine codeAny_loop rfl I (fun n s hI => ?_) n h
  show wpAny _ A ((compTurn (.ListComp elt gens scope pos) d it acc env).onRaise (fun x => do noteFrame x env; theTreesLotGoes x)) _ _ s
  refine wpAny_noted ?_
  rw [ho]
  refine wpAny_bind (wpAny_standAt (wpAny_bind (wpAny_mono (turn n s hI) (fun r z1 h₁ => ?_) fun _ _ h' => h')))
  cases r with
  | none => exact wpAny_pure h₁
  | some v =>
    refine wpAny_bind (wpAny_mono h₁ (fun _ z1' h₁' => ?_) fun _ _ h' => h')
    refine wpAny_bind (wpAny_mono h₁' (fun _ z2 h₂ => wpAny_bind (wpAny_mono h₂ (fun ok z3 h₃ => ?_) fun _ _ h' => h')) fun _ _ h' => h')
    cases ok with
    | false => exact wpAny_pure ⟨rfl, h₃⟩
    | true =>
      exact wpAny_bind (wpAny_bind (wpAny_mono h₃ (fun x z4 h₄ => wpAny_bind (wpAny_mono h₄ (fun _ z5 h₅ => wpAny_pure (wpAny_pure ⟨rfl, h₅⟩)) fun _ _ h' => h')) fun _ _ h' => h'))
/-- a clause's start -/
theorem start_ok (hc : gens[d]? = some c) (ha : c.is_async = 0) (h0 : codeAny (model prog w) A (.compLoop (.ListComp elt gens scope pos) d it acc env) R s)
    (h : wpAny (model prog w) A (pyIter it) (fun it' s' => codeAny (model prog w) A (.compLoop (.ListComp elt gens scope pos) d it' acc env) R s')
      (notedBy (model prog w) A env fun x s' => R (.error x) s') s) :
    codeAny (model prog w) A (.compStart (.ListComp elt gens scope pos) d it acc env) R s := by
  refine codeAny_of_tree ?_
  have e : compStart (.ListComp elt gens scope pos) d it acc env = (do
      if (← ask).params.followText "comprehension-iter-twice" then return ← again (.compLoop (.ListComp elt gens scope pos) d it acc env)
      rule "comprehension.iter-twice"
      standAt c.iter.pos
      again (.compLoop (.ListComp elt gens scope pos) d (← pyIter it) acc env)) := by
    unfold compStart
    show (if (gens[d]?).elim false (·.is_async != 0) = true then _ else _) = _
    simp only [show clausesOf (.ListComp elt gens scope pos) = gens from rfl, hc, Option.elim, ha]
    rfl
  show wpAny _ _ ((compStart (.ListComp elt gens scope pos) d it acc env).onRaise (fun x => do noteFrame x env; standAt theWindowsPlace)) _ _ s
  refine wpAny_notedAt ?_
  rw [e]
  show wpAny _ _ (ask >>= _) _ _ s
  refine wpAny_bind (wpAny_askSetting (wpAny_ite ?_))
  split
  · first
      | exact wpAny_bind (wpAny_pure (wpAny_pure (And.intro rfl h0)))
      | exact wpAny_pure (And.intro rfl h0)
  · first
      | exact wpAny_bind (wpAny_rule (wpAny_bind (wpAny_standAt (wpAny_bind (wpAny_mono h (fun it' s' h' => wpAny_pure (And.intro rfl h')) fun _ _ x => x)))))
      | (refine wpAny_bind (wpAny_rule ?_); show wpAny _ _ (standAt c.iter.pos >>= _) _ _ s; exact wpAny_bind (wpAny_standAt (wpAny_bind (wpAny_mono h (fun it' s' h' => wpAny_pure (And.intro rfl h')) fun _ _ x => x))))
end
section
variable {X : Cx}
/-- a clause by its words -/
structure PCl (X : Cx) (c : Comprehension) (k : Cl) : Prop where
  it : PI X c.target c.iter k.1
  tg : PG X c.target k.2.1
  ts : PTs X c.ifs k.2.2.1
  sy : c.is_async = 0
  fo : ∀ x, foldedSetIterable c.iter X.env x = pure x
/-- the clauses behind the first -/
inductive PCls (X : Cx) : List Comprehension → List Cl → Prop
  | nil : PCls X [] []
  | cons {c : Comprehension} {k : Cl} {cs : List Comprehension} {ks : List Cl} : PCl X c k → PCls X cs ks → PCls X (c :: cs) (k :: ks)
/-- each clause's names are among those of the one before -/
def Nst : List Nat → List Cl → Prop
  | _, [] => True
  | vs, k :: ks => (∀ i ∈ k.2.2.2, i ∈ vs) ∧ Nst k.2.2.2 ks
theorem weak_in {σ σ' : St} {vs vs' : List Nat} (hw : wipe σ' vs = wipe σ vs) (hv : ∀ i ∈ vs', i ∈ vs) : (wipe σ vs).length = (wipe σ' vs').length ∧ ∀ (j : Nat) v, (wipe σ vs)[j]? = some (some v) → (wipe σ' vs')[j]? = some (some v) := by
  refine ⟨by rw [← hw, wipe_length, wipe_length], fun j v e => ?_⟩
  rw [← hw] at e
  obtain ⟨ea, e2⟩ := wipe_some e
  rw [wipe_out fun z => e2 (hv j z)]
  exact ea
theorem weak_out {σ σ' : St} {vs : List Nat} (hw : wipe σ' vs = wipe σ vs) : (wipe σ vs).length = σ'.length ∧ ∀ (j : Nat) v, (wipe σ vs)[j]? = some (some v) → σ'[j]? = some (some v) :=
  ⟨by rw [← hw, wipe_length], fun j v e => by rw [← hw] at e; exact (wipe_some e).1⟩
theorem thnX {α : Type} {t : Sem α} {Q Q' : α → Shared → Prop} {E : Value → Shared → Prop} {s : Shared} (hx : X.xe = fun _ _ => False) (h : wpAny (model X.prog X.w) X.A t Q X.xe s) (hQ : ∀ a s, Q a s → Q' a s) : wpAny (model X.prog X.w) X.A t Q' E s := by
  rw [hx] at h
  exact thnF h hQ
/-- the clauses from the d-th on, within the block -/
theorem in_ok {elt : Expr} {gens : List Comprehension} {scope : Scope} {pos : Pos} {te : TE} {D : Addr} (hc : X.calm = true) (hx : X.xe = fun _ _ => False) (pe : PE X elt te) : ∀ (cs : List Comprehension) (ks : List Cl) (d : Nat) (c : Comprehension) (k : Cl), (∀ m, (c :: cs)[m]? = gens[d + m]?) → Chain (.ListComp elt gens scope pos) elt d c cs → PCl X c k → PCls X cs ks → Nst k.2.2.2 ks →
    ∀ (pins : List (Addr × Obj)) (σ : St) (H : Hp) (s : Shared) (Nx : Hp → Prop) (E : Value → Shared → Prop), Inv X pins σ H s → tIn te D (k :: ks) σ H Nx →
    wpAny (model X.prog X.w) X.A (eval c.iter X.env) (fun x s4 => wpAny (model X.prog X.w) X.A (pyIter x) (fun itr s5 => codeAny (model X.prog X.w) X.A (.compStart (.ListComp elt gens scope pos) d itr (.ref D) X.env) (fun r s' => match r with
      | .ok _ => ∃ H', Inv X pins (wipe σ k.2.2.2) H' s' ∧ Nx H'
      | .error _ => False) s5) E s4) E s := by
  intro cs
  induction cs with
  | nil =>
    intro ks d c k hgen hch hk hks hn pins σ H s Nx E I h
    cases hks
    obtain ⟨wi, g, tt, vs⟩ := k
    refine thnX hx (hk.it.run _ s σ H _ I h) fun xv u0 hr1 => thnX hx hr1 fun itv u1 hp => ?_
    obtain ⟨itr, fs, tk, Jt, G1, ea, iv1, Tr, sa, fo1, Wr, ⟨mz, wz⟩, tun⟩ := hp
    subst ea
    have sta : ∀ {H' : Hp}, (∀ b ∈ fs, H' b = none) → ∀ b ∈ fs, FpOk X pins H' b := fun hn b hb => ⟨hn b hb, (fo1 b hb).2⟩
    have lp : codeAny (model X.prog X.w) X.A (.compLoop (.ListComp elt gens scope pos) d (.ref itr) (.ref D) X.env)
        (fun r s' => match r with
          | .ok _ => ∃ H', Inv X pins (wipe σ vs) H' s' ∧ Nx H'
          | .error _ => False) u1 := by
      refine loop_in hch (fun k s' => ∃ j H', Inv X pins (wipe σ vs) H' s' ∧ tk j s'.heap ∧ (∀ b ∈ fs, H' b = none) ∧ Wr j k H') ?_ mz ⟨0, G1, iv1.weak (wipe_length _ _) (fun j v e => (wipe_some e).1), sa, fun b hb => (fo1 b hb).1, wz⟩
      rintro k u2 ⟨j, G2, iv2, sb, nq, wq⟩
      rcases tun j k G2 wq with ⟨sp1, nxt⟩ | ⟨gog, Ny, hNy, sty⟩
      · refine thnF (Tr.done X rfl rfl rfl hc j _ u2 (wipe σ vs) G2 (fun _ _ => False) iv2 (sta nq) sb sp1) fun r u3 ⟨hr, iv3⟩ => ?_
        subst hr
        exact ⟨G2, iv3, nxt⟩
      · refine thnF (Tr.item X rfl rfl rfl hc j _ u2 (wipe σ vs) G2 (fun _ _ => False) iv2 (sta nq) sb gog) fun r u3 ⟨ua, hr, hq⟩ => ?_
        subst hr
        refine thnF hq fun _ u4 ⟨xa, G4, iv4, rq, yq, sd, nr⟩ => ?_
        have iv4' := iv4.pinned (sta nr) (Tr.obj _ _ sd)
        refine thnX hx (hk.tg.run _ u4 (wipe σ vs) G4 xa ua _ iv4' rq (sty xa G4 yq)) fun _ u5 ⟨σ5, G5, iv5, hwp, q5⟩ => ?_
        refine thnX hx (hk.ts.run _ u5 σ5 G5 _ iv5 q5) fun bb u6 ⟨G6, iv6, q6⟩ => ?_
        have fin : ∀ {s' : Shared} {H' : Hp}, Inv X (pins ++ pinsAt fs u4.heap) σ5 H' s' → Ny H' → ∃ m, m < k ∧ ∃ j H', Inv X pins (wipe σ vs) H' s' ∧ tk j s'.heap ∧ (∀ b ∈ fs, H' b = none) ∧ Wr j m H' := fun {s' H'} I' nx => by
          obtain ⟨m', hm, w'⟩ := hNy H' nx
          have pin' : ∀ b ∈ fs, ∀ o, u4.heap.get? b = some o → s'.heap.get? b = some o ∧ H' b = none := fun b hb o e =>
            let z := I'.pin (b, o) (List.mem_append_right _ (List.mem_append_right _ (mem_pinsAt hb e)))
            ⟨z.1, z.2.1⟩
          refine ⟨m', hm, j + 1, H', I'.unpinned.weak (weak_out hwp).1 (weak_out hwp).2, Tr.keep _ _ _ sd fun b hb o e => (pin' b hb o e).1, fun b hb => ?_, w'⟩
          obtain ⟨o, e, _⟩ := Tr.obj _ _ sd b hb
          exact (pin' b hb o e).2
        cases bb with
        | false =>
          simp only [Bool.false_eq_true, if_false] at q6 ⊢
          exact fin iv6 q6
        | true =>
          simp only [if_true] at q6 ⊢
          refine thnX hx (pe.run _ u6 σ5 G6 _ iv6 q6) fun z u7 ⟨yv, G7, iv7, r7, acc, hd7, hz7, nx⟩ => ?_
          exact app_ok iv7 hd7 hz7 r7 fun u8 iv8 => fin iv8 nx
    exact start_ok (hgen 0).symm hk.sy lp (Tr.self X.A 0 _ _ _ sa lp)
  | cons c' cs ih =>
    intro ks d c k hgen hch hk hks hn pins σ H s Nx E I h
    cases hks with
    | @cons _ k' _ ks hk' hks =>
    obtain ⟨wi, g, tt, vs⟩ := k
    have ih' := ih ks (d + 1) c' k' (fun m => by
      have := hgen (m + 1)
      rw [show d + (m + 1) = d + 1 + m by omega] at this
      exact this) hch.2 hk' hks hn.2
    refine thnX hx (hk.it.run _ s σ H _ I h) fun xv u0 hr1 => thnX hx hr1 fun itv u1 hp => ?_
    obtain ⟨itr, fs, tk, Jt, G1, ea, iv1, Tr, sa, fo1, Wr, ⟨mz, wz⟩, tun⟩ := hp
    subst ea
    have sta : ∀ {H' : Hp}, (∀ b ∈ fs, H' b = none) → ∀ b ∈ fs, FpOk X pins H' b := fun hn b hb => ⟨hn b hb, (fo1 b hb).2⟩
    have lp : codeAny (model X.prog X.w) X.A (.compLoop (.ListComp elt gens scope pos) d (.ref itr) (.ref D) X.env)
        (fun r s' => match r with
          | .ok _ => ∃ H', Inv X pins (wipe σ vs) H' s' ∧ Nx H'
          | .error _ => False) u1 := by
      refine loop_out hch.1 hk'.fo (fun k s' => ∃ j H', Inv X pins (wipe σ vs) H' s' ∧ tk j s'.heap ∧ (∀ b ∈ fs, H' b = none) ∧ Wr j k H') ?_ mz ⟨0, G1, iv1.weak (wipe_length _ _) (fun j v e => (wipe_some e).1), sa, fun b hb => (fo1 b hb).1, wz⟩
      rintro k u2 ⟨j, G2, iv2, sb, nq, wq⟩
      rcases tun j k G2 wq with ⟨sp1, nxt⟩ | ⟨gog, Ny, hNy, sty⟩
      · refine thnF (Tr.done X rfl rfl rfl hc j _ u2 (wipe σ vs) G2 (fun _ _ => False) iv2 (sta nq) sb sp1) fun r u3 ⟨hr, iv3⟩ => ?_
        subst hr
        exact ⟨G2, iv3, nxt⟩
      · refine thnF (Tr.item X rfl rfl rfl hc j _ u2 (wipe σ vs) G2 (fun _ _ => False) iv2 (sta nq) sb gog) fun r u3 ⟨ua, hr, hq⟩ => ?_
        subst hr
        refine thnF hq fun _ u4 ⟨xa, G4, iv4, rq, yq, sd, nr⟩ => ?_
        have iv4' := iv4.pinned (sta nr) (Tr.obj _ _ sd)
        refine thnX hx (hk.tg.run _ u4 (wipe σ vs) G4 xa ua _ iv4' rq (sty xa G4 yq)) fun _ u5 ⟨σ5, G5, iv5, hwp, q5⟩ => ?_
        refine thnX hx (hk.ts.run _ u5 σ5 G5 _ iv5 q5) fun bb u6 ⟨G6, iv6, q6⟩ => ?_
        have fin : ∀ {σ' : St} {s' : Shared} {H' : Hp}, Inv X (pins ++ pinsAt fs u4.heap) σ' H' s' → ((wipe σ vs).length = σ'.length ∧ ∀ (j : Nat) v, (wipe σ vs)[j]? = some (some v) → σ'[j]? = some (some v)) → Ny H' → ∃ m, m < k ∧ ∃ j H', Inv X pins (wipe σ vs) H' s' ∧ tk j s'.heap ∧ (∀ b ∈ fs, H' b = none) ∧ Wr j m H' := fun {σ' s' H'} I' hl nx => by
          obtain ⟨m', hm, w'⟩ := hNy H' nx
          have pin' : ∀ b ∈ fs, ∀ o, u4.heap.get? b = some o → s'.heap.get? b = some o ∧ H' b = none := fun b hb o e =>
            let z := I'.pin (b, o) (List.mem_append_right _ (List.mem_append_right _ (mem_pinsAt hb e)))
            ⟨z.1, z.2.1⟩
          refine ⟨m', hm, j + 1, H', I'.unpinned.weak hl.1 hl.2, Tr.keep _ _ _ sd fun b hb o e => (pin' b hb o e).1, fun b hb => ?_, w'⟩
          obtain ⟨o, e, _⟩ := Tr.obj _ _ sd b hb
          exact (pin' b hb o e).2
        cases bb with
        | false =>
          simp only [Bool.false_eq_true, if_false] at q6 ⊢
          exact fin iv6 (weak_out hwp) q6
        | true =>
          simp only [if_true] at q6 ⊢
          refine wpAny_mono (ih' _ σ5 G6 u6 Ny (fun _ _ => False) iv6 q6) (fun x u7 h17 => wpAny_mono h17 (fun it2 u8 h18 => codeAny_mono h18 fun r s' hr => ?_) fun _ _ z => False.elim z) fun _ _ z => False.elim z
          cases r with
          | ok f =>
            obtain ⟨H', I', nx⟩ := hr
            exact fin I' (weak_in hwp hn.1) nx
          | error e => exact hr
    exact start_ok (hgen 0).symm hk.sy lp (Tr.self X.A 0 _ _ _ sa lp)
/-- all clauses of a list comprehension -/
theorem lcN_core {pins : List (Addr × Obj)} {s : Shared} {σ : St} {H : Hp} {Q : VK} {elt tg iter : Expr} {ifs : List Expr} {c1 : Comprehension} {cs1 : List Comprehension} {scope : Scope} {own : List (Str × Nat)} {pos pos' : Pos} {wi : TI} {g : TG} {tt : TT} {te : TE} {ks : List Cl} {use : Option (Value → Sem Unit)} {Qf : Value → Shared → Prop}
    (hc : X.calm = true) (hN : X.N.Nodup) (I : Inv X pins σ H s) (hi : PI X tg iter wi) (ok : BlkOk X.N X.env.scope scope own)
    (hg : ∀ (z : Shared) (G : Hp) (C : Addr) (cl : List (Str × Addr)) (fs : List Addr), PG (X.blk z G scope (compEnvC scope cl C X.env) fs) tg g) (ht : ∀ (z : Shared) (G : Hp) (C : Addr) (cl : List (Str × Addr)) (fs : List Addr), PTs (X.blk z G scope (compEnvC scope cl C X.env) fs) ifs tt)
    (he : ∀ (z : Shared) (G : Hp) (C : Addr) (cl : List (Str × Addr)) (fs : List Addr), PE (X.blk z G scope (compEnvC scope cl C X.env) fs) elt te) (hs : ∀ x, foldedSetIterable iter X.env x = pure x)
    (hks0 : ∀ (z : Shared) (G : Hp) (C : Addr) (cl : List (Str × Addr)) (fs : List Addr), PCls (X.blk z G scope (compEnvC scope cl C X.env) fs) (c1 :: cs1) ks) (hnst : Nst (own.map (·.2)) ks)
    (hch : Chain (.ListComp elt (⟨tg, iter, ifs, 0⟩ :: c1 :: cs1) scope pos) elt 0 ⟨tg, iter, ifs, 0⟩ (c1 :: cs1))
    (h : tLcN wi g tt (own.map (·.2)) te ks σ H Q)
    (hRR : ∀ D C s' m H', Inv X pins σ H' s' → Q (.ref D) H' → s'.heap.Ns C m → FpOk X pins H' C → compPost (model X.prog X.w) X.A X.xe use Qf (.ref D) C (.ok .next) s') :
    wpAny (model X.prog X.w) X.A (comprehension (.ListComp elt (⟨tg, iter, ifs, 0⟩ :: c1 :: cs1) scope pos) scope X.env pos' (newList []) false (eval iter X.env) use) Qf X.xe s := by
  have hfr : ∀ y ∈ scope.names, y.2 = .free → ∃ c, X.env.cells.lookup y.1 = some c := fun y hy e => by
    rcases ok.free y hy e with k | k
    · exact I.ok.has _ (.inl k)
    · exact I.ok.has _ (.inr k)
  refine wpAny_comprehension_free (use := use) rfl hs (closure_ok hfr) ok.kind (fun y hy e => by rw [ok.uniq y hy, e])
    (thn (hi.run pins s σ H _ I h) fun xv w1 hx => thn hx fun itv w2 h2 => ?_)
  obtain ⟨it, fs, tk, J, G2, e, v2, T, sa, fb, q⟩ := h2
  subst e
  refine wpAny_newObj_type (newEnv_comp ?_) (by show 0 ≤ sizeLine; decide)
  generalize hD : w2.heap.objs.size = D
  have hDz : G2 D = none := v2.hok.fresh (Nat.le_of_eq hD)
  obtain ⟨W, ⟨mz, wz⟩, tun⟩ := q D hDz
  -- the new list
  generalize hz3 : ({ w2 with heap := w2.heap.push { cls := .type "list", data := .seq ([] : List Value).toArray } } : Shared) = w3
  have v3 : Inv X pins σ (upd G2 D (.lst [])) w3 := by
    rw [← hz3]
    refine v2.laid (t' := w2.toks) (fun b o e => Heap.get?_push_of_some _ e) (Nat.le_of_eq hD) ⟨Nat.zero_le _, [], 0, .nil, ?_⟩
    rw [← hD]
    exact Heap.get?_push_size _ rfl
  have hp3 : w3.heap = w2.heap.push { cls := .type "list", data := .seq ([] : List Value).toArray } := by rw [← hz3]
  have szs : ∀ b ∈ fs, b < w2.heap.objs.size := fun b hb => by
    obtain ⟨o, e, _⟩ := T.obj _ _ sa b hb
    exact Heap.lt_size e
  have fc : ∀ b ∈ fs, FpOk X pins (upd G2 D (.lst [])) b ∧ b < w3.heap.objs.size := fun b hb => by
    have hlt := szs b hb
    refine ⟨⟨?_, (fb b hb).2⟩, by rw [hp3, Heap.size_push]; exact Nat.lt_succ_of_lt hlt⟩
    rw [upd_ne (by rw [← hD]; exact Nat.ne_of_lt hlt)]
    exact (fb b hb).1
  have sb : tk 0 w3.heap := T.keep _ _ _ sa fun b _ o e => by rw [hp3]; exact Heap.get?_push_of_some _ e
  have v4 := block_start v3 ok hN fc
  have pgt := hg w3 (upd G2 D (.lst [])) w3.heap.objs.size (cellsFrom (w3.heap.objs.size + 1) scope.names (cloFrom X.env.cells scope.names [])) fs
  have pts := ht w3 (upd G2 D (.lst [])) w3.heap.objs.size (cellsFrom (w3.heap.objs.size + 1) scope.names (cloFrom X.env.cells scope.names [])) fs
  have hks := hks0 w3 (upd G2 D (.lst [])) w3.heap.objs.size (cellsFrom (w3.heap.objs.size + 1) scope.names (cloFrom X.env.cells scope.names [])) fs
  have pel := he w3 (upd G2 D (.lst [])) w3.heap.objs.size (cellsFrom (w3.heap.objs.size + 1) scope.names (cloFrom X.env.cells scope.names [])) fs
  show codeAny _ _ (.compStart (.ListComp elt (⟨tg, iter, ifs, 0⟩ :: c1 :: cs1) scope pos) 0 (.ref it) (.ref D) (compEnvC scope (cellsFrom (w3.heap.objs.size + 1) scope.names (cloFrom X.env.cells scope.names [])) w3.heap.objs.size X.env)) (compPost (model X.prog X.w) X.A X.xe use Qf (.ref D) w3.heap.objs.size) { w3 with heap := pushCells (w3.heap.push { cls := .type "dict", data := .dict #[] }) scope.names }
  have nfs : ∀ b ∈ fs, (upd G2 D (.lst [])) b = none := fun b hb => (fc b hb).1.1
  generalize hcx : compEnvC scope (cellsFrom (w3.heap.objs.size + 1) scope.names (cloFrom X.env.cells scope.names [])) w3.heap.objs.size X.env = ce at v4 pgt pts pel hks ⊢
  have cl0 : ce.locals = w3.heap.objs.size := by subst hcx; rfl
  generalize hG3 : upd G2 D (.lst []) = G3 at v3 v4 pgt pts pel hks wz nfs fc
  generalize hz4 : ({ w3 with heap := pushCells (w3.heap.push { cls := .type "dict", data := .dict #[] }) scope.names } : Shared) = w4 at v4 ⊢
  have sc : tk 0 w4.heap := T.keep _ _ _ sb fun b _ o e => by rw [← hz4]; exact pushCells_keeps _ _ _ _ (Heap.get?_push_of_some _ e)
  have sta : ∀ {σ' : St} {H' : Hp} {s' : Shared}, Inv (X.blk w3 G3 scope ce fs) [] σ' H' s' → (∀ b ∈ fs, H' b = none) → ∀ b ∈ fs, FpOk (X.blk w3 G3 scope ce fs) [] H' b := fun {σ' H' s'} I' hn b hb =>
    ⟨hn b hb, (I'.ok.exf b hb).1, I'.ok.exfs b hb, .inl hb, fun x c e => (I'.ok.exf b hb).2 x c e, fun p hp => absurd (show p ∈ ([] : List (Addr × Obj)) ++ [] from hp) (by simp)⟩
  have loop : codeAny (model X.prog X.w) X.A (.compLoop (.ListComp elt (⟨tg, iter, ifs, 0⟩ :: c1 :: cs1) scope pos) 0 (.ref it) (.ref D) ce) (compPost (model X.prog X.w) X.A X.xe use Qf (.ref D) w3.heap.objs.size) w4 := by
    refine loop_out hch.1 (by cases hks with | cons hz _ => exact hz.fo) (fun n s' => ∃ i H', Inv (X.blk w3 G3 scope ce fs) [] (wipe σ (own.map (·.2))) H' s' ∧ tk i s'.heap ∧ (∀ b ∈ fs, H' b = none) ∧ W i n H') ?_ mz ⟨0, G3, v4, sc, nfs, wz⟩
    rintro n w5 ⟨i, G5, v5, sd, nb, wv⟩
    rcases tun i n G5 wv with ⟨stop, qq⟩ | ⟨go, Nx, hNx, step⟩
    · have tdn := T.done (X.blk w3 G3 scope ce fs) rfl rfl rfl hc i [] w5 _ G5 (fun _ _ => False) v5 (sta v5 nb) sd stop
      refine thnF tdn fun r w6 ⟨hr, v6⟩ => ?_
      subst hr
      -- back in the def's context
      have v7 : Inv X pins σ G5 w6 := v3.call' (ch := fs) v6.os v6.base v6.hok v6.bare fun b hb => ⟨(fc b hb).1.2.2.2.1, (fc b hb).1.2.1, (fc b hb).1.2.2.2.2.1, (fc b hb).1.2.2.2.2.2⟩
      have nCe : G5 w3.heap.objs.size = none := by
        have z : G5 ce.locals = none := v6.free
        rw [cl0] at z
        exact z
      obtain ⟨m, hn, _⟩ := v6.loc
      have hn : w6.heap.Ns ce.locals m := hn
      rw [cl0] at hn
      exact hRR D w3.heap.objs.size w6 m G5 v7 qq hn (v3.fpOk (Nat.le_refl _) nCe)
    · have tit := T.item (X.blk w3 G3 scope ce fs) rfl rfl rfl hc i [] w5 _ G5 (fun _ _ => False) v5 (sta v5 nb) sd go
      refine thnF tit fun r w6 ⟨u, hr, h6⟩ => ?_
      subst hr
      refine thnF h6 fun _ w7 ⟨x, G7, v7, rq, yq, sf, nd⟩ => ?_
      have I7' := v7.pinned (sta v7 nd) (T.obj _ _ sf)
      refine thnF (pgt.run _ w7 _ G7 x u _ I7' rq (step x G7 yq)) fun _ w8 ⟨σz, G8, v8, hwz, qa⟩ => ?_
      refine thnF (pts.run _ w8 σz G8 _ v8 qa) fun b w9 ⟨G9, v9, qb⟩ => ?_
      -- the turn's end, from any slots that know what the block knew at its start
      have fi : ∀ {σ9 : St} {s' : Shared} {H' : Hp}, Inv (X.blk w3 G3 scope ce fs) ([] ++ pinsAt fs w7.heap) σ9 H' s' → (wipe σ (own.map (·.2))).length = σ9.length → (∀ (j : Nat) v, (wipe σ (own.map (·.2)))[j]? = some (some v) → σ9[j]? = some (some v)) → Nx H' →
          ∃ m, m < n ∧ ∃ i H', Inv (X.blk w3 G3 scope ce fs) [] (wipe σ (own.map (·.2))) H' s' ∧ tk i s'.heap ∧ (∀ b ∈ fs, H' b = none) ∧ W i m H' := fun {σ9 s' H'} I' hl hk nx => by
        obtain ⟨m', hm, w'⟩ := hNx H' nx
        have pin' : ∀ b ∈ fs, ∀ o, w7.heap.get? b = some o → s'.heap.get? b = some o ∧ H' b = none := fun b hb o e =>
          let z := I'.pin (b, o) (List.mem_append_right _ (List.mem_append_right _ (mem_pinsAt hb e)))
          ⟨z.1, z.2.1⟩
        refine ⟨m', hm, i + 1, H', (I'.unpinned (pins := [])).weak hl hk, T.keep _ _ _ sf fun b hb o e => (pin' b hb o e).1, fun b hb => ?_, w'⟩
        obtain ⟨o, e, _⟩ := T.obj _ _ sf b hb
        exact (pin' b hb o e).2
      have hlz : (wipe σ (own.map (·.2))).length = σz.length := by rw [← hwz, wipe_length]
      have hkz : ∀ (j : Nat) v, (wipe σ (own.map (·.2)))[j]? = some (some v) → σz[j]? = some (some v) := fun j v e => by
        rw [← hwz] at e
        exact (wipe_some e).1
      cases b with
      | false =>
        simp only [Bool.false_eq_true, if_false] at qb ⊢
        exact fi v9 hlz hkz qb
      | true =>
        simp only [if_true] at qb ⊢
        cases hks with
        | @cons _ k' _ ks' hk' hks' =>
        refine wpAny_mono (in_ok (X := X.blk w3 G3 scope ce fs) hc rfl pel _ ks' 1 c1 k' (fun m => by rw [Nat.add_comm]; rfl) hch.2 hk' hks' hnst.2 _ σz G9 w9 Nx (fun _ _ => False) v9 qb) (fun x sx hx1 => wpAny_mono hx1 (fun itx sy hy1 => codeAny_mono hy1 fun r szs hr => ?_) fun _ _ z => False.elim z) fun _ _ z => False.elim z
        cases r with
        | ok f =>
          obtain ⟨Hz, Iz, nx⟩ := hr
          have hwk := weak_in hwz hnst.1
          exact fi Iz hwk.1 hwk.2 nx
        | error e => exact hr
  exact codeAny_compStart_list loop (T.self X.A 0 _ _ _ sc loop)
/-- as a value -/
theorem pe_lcN {elt tg iter : Expr} {ifs : List Expr} {c1 : Comprehension} {cs1 : List Comprehension} {scope : Scope} {own : List (Str × Nat)} {pos : Pos} {wi : TI} {g : TG} {tt : TT} {te : TE} {ks : List Cl} (hc : X.calm = true) (hN : X.N.Nodup) (hi : PI X tg iter wi) (ok : BlkOk X.N X.env.scope scope own)
    (hg : ∀ (z : Shared) (G : Hp) (C : Addr) (cl : List (Str × Addr)) (fs : List Addr), PG (X.blk z G scope (compEnvC scope cl C X.env) fs) tg g) (ht : ∀ (z : Shared) (G : Hp) (C : Addr) (cl : List (Str × Addr)) (fs : List Addr), PTs (X.blk z G scope (compEnvC scope cl C X.env) fs) ifs tt)
    (he : ∀ (z : Shared) (G : Hp) (C : Addr) (cl : List (Str × Addr)) (fs : List Addr), PE (X.blk z G scope (compEnvC scope cl C X.env) fs) elt te)
    (hks : ∀ (z : Shared) (G : Hp) (C : Addr) (cl : List (Str × Addr)) (fs : List Addr), PCls (X.blk z G scope (compEnvC scope cl C X.env) fs) (c1 :: cs1) ks) (hnst : Nst (own.map (·.2)) ks)
    (hch : Chain (.ListComp elt (⟨tg, iter, ifs, 0⟩ :: c1 :: cs1) scope pos) elt 0 ⟨tg, iter, ifs, 0⟩ (c1 :: cs1)) (hs : ∀ x, foldedSetIterable iter X.env x = pure x := by intro _; rfl) :
    PE X (.ListComp elt (⟨tg, iter, ifs, 0⟩ :: c1 :: cs1) scope pos) (tLcN wi g tt (own.map (·.2)) te ks) := by
  refine ⟨fun pins s σ H Q I h => ?_⟩
  rw [eval_ListComp]
  refine lcN_core hc hN I hi ok hg ht he hs hks hnst hch h fun D C z m G iv q hn f => ⟨m, hn, fun hh sb => ?_⟩
  obtain ⟨a0, a1, a2, a3, a4, a5⟩ := f
  exact ⟨.ref D, G, iv.turned (t' := z.toks) (fun b o hb e => (sb.2 b hb).trans e) a0 a1 a3 a4 a5, rfl, q⟩
end
end L2
namespace Dw
open PySem L2 TL
theorem walk_list {K : PySem.W.Frag} {a : Addr} {xs : List V} {H1 : Hp} {Qd : Hp → Prop} {B : V → Hp → (Hp → Prop) → Prop} (Pv : Nat → Hp → Prop) (h0 : Pv 0 H1) (hl : ∀ i H, Pv i H → SqL K H a xs) (hs : ∀ i x H, xs[i]? = some x → Pv i H → B x H (Pv (i + 1))) (hd : ∀ H, Pv xs.length H → Qd H) :
    ∃ W : Nat → Nat → Hp → Prop, (∃ m, W 0 m H1) ∧ ∀ i m H, W i m H → ((Itl K a).stop i H ∧ Qd H) ∨ ((Itl K a).go i H ∧ ∃ Nx : Hp → Prop, (∀ H', Nx H' → ∃ m', m' < m ∧ W (i + 1) m' H') ∧ ∀ x H', (Itl K a).yld i H x H' → B x H' Nx) := by
  refine ⟨fun i m H => m + i = xs.length ∧ Pv i H, ⟨xs.length, Nat.add_zero _, h0⟩, fun i m H ⟨hm, p⟩ => ?_⟩
  have q := hl i H p
  rcases Nat.lt_or_ge i xs.length with hi | hi
  · refine .inr ⟨⟨xs, xs[i], q, List.getElem?_eq_getElem hi⟩, Pv (i + 1), fun H' p' => ⟨m - 1, by omega, by omega, p'⟩, fun x H' hy => ?_⟩
    rw [hy.1]
    exact hs i x H (hy.2 xs q) p
  · have e : i = xs.length := by omega
    rw [e] at p ⊢
    exact .inl ⟨⟨xs, q, Nat.le_refl _⟩, hd H p⟩
theorem wipe_in {i : Nat} : ∀ {vs : List Nat} {τ : L2.St}, i ∈ vs → (L2.wipe τ vs)[i]? = if i < τ.length then some none else none
  | [], _, h => nomatch h
  | v :: vs, τ, h => by
    show ((L2.wipe τ vs).set v none)[i]? = _
    by_cases e : v = i
    · subst e
      by_cases hl : v < τ.length
      · rw [if_pos hl, List.getElem?_set_self (by rw [wipe_length]; exact hl)]
      · rw [if_neg hl, List.getElem?_eq_none (by rw [List.length_set, wipe_length]; omega)]
    · rw [List.getElem?_set_ne e]
      rcases List.mem_cons.mp h with z | z
      · exact absurd z.symm e
      · exact wipe_in z
theorem wipe_set_in {vs : List Nat} {j : Nat} {σ : L2.St} {v : V} (hj : j ∈ vs) : L2.wipe ((L2.wipe σ vs).set j (some v)) vs = L2.wipe σ vs := by
  refine List.ext_getElem? fun i => ?_
  by_cases h : i ∈ vs
  · rw [wipe_in h, wipe_in h, List.length_set, wipe_length]
  · rw [wipe_out h, List.getElem?_set_ne fun z => h (by rw [← z]; exact hj)]
/-- all but the list stands -/
def Kb (Dl : Addr) (H H' : Hp) : Prop := ∀ b o, b ≠ Dl → H b = some o → H' b = some o
section
variable {K : PySem.W.Frag} {Pm F : List Addr} {M : Mu} {Γ : Ga} {te tl' : TE} {x y z d : Dv} {R : Dv → Mu → Prop} {H0 H H' : Hp} {σ : L2.St}
/-- the slots vs are wiped -/
theorem Sl.wipe {l : List Addr} {vs : List Nat} (h : Sl K l H σ Γ) (hv : ∀ i ∈ vs, ∀ d, Γ[i]? ≠ some (some d)) : Sl K l H (L2.wipe σ vs) Γ :=
  ⟨by rw [wipe_length]; exact h.len, fun i d e => by
    obtain ⟨v, hs, r⟩ := h.sl i d e
    exact ⟨v, by rw [wipe_out fun z => hv i z d e]; exact hs, r⟩⟩
/-- an item at the list's end -/
theorem Lcs.add {H1 H4 : Hp} {Dl : Addr} {acc : List Dv} {yv : V} {r : Dv} (hD : H1 Dl = none) (c : Lcs K F M H1 Dl acc H) (e : Same H H4) (hz : acc.length ≤ 60000) (r4 : Rp K (hid (ads M ++ Dl :: F) H4) yv r) :
    ∃ xs, H4 Dl = some (.lst xs) ∧ xs.length < sizeLine ∧ Lcs K F M H1 Dl (acc ++ [r]) (upd H4 Dl (.lst (xs ++ [yv]))) := by
  obtain ⟨xs, hx, rx⟩ := c.l
  have hk : Same (hid (Dl :: (ads M ++ F)) H4) (hid (Dl :: (ads M ++ F)) (upd H4 Dl (.lst (xs ++ [yv])))) := fun a o q => by
    obtain ⟨n, z⟩ := hid_some q
    rw [hid_out n, upd_ne (fun w => n (by rw [w]; exact List.mem_cons_self ..))]
    exact z
  refine ⟨xs, e _ _ hx, sz_lt (by rw [rx.len]; omega), fun a o q => ?_, xs ++ [yv], upd_same, ?_⟩
  · rw [upd_ne (ne_of_none q hD)]
    exact e _ _ (c.e a o q)
  · rw [swap_hid (l := [])] at r4
    exact ((rx.mono (hid_same e)).mono hk).app (.cons (r4.mono hk) .nil)
/-- what the clauses ks and the element te add to a list -/
def EvIn (K : PySem.W.Frag) (F : List Addr) (M : Mu) (te : TE) (ks : List Cl) (Γ : Ga) (res : List Dv) : Prop :=
  ∀ (Dl : Addr) (H1 : Hp) (σ : L2.St) (H : Hp) (acc : List Dv), H1 Dl = none → Ms K F M H1 → Lcs K F M H1 Dl acc H → Sl K (ads M ++ Dl :: F) H σ Γ → acc.length + res.length ≤ 60000 → ∀ Nx : Hp → Prop, (∀ H', Lcs K F M H1 Dl (acc ++ res) H' → Kb Dl H H' → Nx H') → tIn te Dl ks σ H Nx
theorem ein_nil {r : Dv} (h : ∀ Dl, EvD K (Dl :: F) M te Γ r) : EvIn K F M te [] Γ [r] := fun Dl H1 σ H acc hD m c s hz Nx q =>
  h Dl σ H (c.ms hD m) s _ fun yv H4 e4 r4 => by
    obtain ⟨xs, hx, hl, c'⟩ := c.add hD e4 (by simp only [List.length_singleton] at hz; omega) r4
    exact ⟨xs, hx, hl, q _ c' fun b o hb hbo => by rw [upd_ne hb]; exact e4 b o hbo⟩
/-- a clause over a list -/
theorem ein_cons {j : Nat} {vs : List Nat} {ks : List Cl} {ds : List Dv} (f : Dv → List Dv) (hl : ∀ Dl, EvD K (Dl :: F) M tl' Γ (.lst ds)) (hj : j ∈ vs) (hv : ∀ i ∈ vs, ∀ d, Γ[i]? ≠ some (some d))
    (hf : ∀ e ∈ ds, EvIn K F M te ks (Γ.set j (some e)) (f e)) : EvIn K F M te ((iList K tl', gName j, tYes, vs) :: ks) Γ (ds.flatMap f) := fun Dl H1 σ H acc hD m c s hz Nx q => by
  have m' := c.ms hD m
  refine hl Dl σ H m' s _ fun v H2 e2 r2 => ?_
  cases r2 with
  | @lst a xs _ h2 rx =>
  have c2 := c.mono e2
  have hq : SqL K H2 a xs := .inl (.inl (hid_some h2).2)
  have hnd : a ≠ Dl := fun z => (hid_some h2).1 (by rw [z]; exact List.mem_append_right _ (List.mem_cons_self ..))
  refine ⟨a, rfl, ⟨xs, hq⟩, walk_list (xs := xs) (B := fun x H' Ny => gName j x (L2.wipe σ vs) H' fun σ3 H5 => L2.wipe σ3 vs = L2.wipe σ vs ∧ tYes σ3 H5 fun b H6 => if b = true then tIn te Dl ks σ3 H6 Ny else Ny H6)
    (fun i H' => Kb Dl H2 H' ∧ Lcs K F M H1 Dl (acc ++ (ds.take i).flatMap f) H') ⟨fun _ _ _ z => z, by simpa using c2⟩ (fun i H' p => .inl (.inl (p.1 a _ hnd (hid_some h2).2))) (fun i x H' hx p => ?_) fun H' p => ?_⟩
  · obtain ⟨hb, ci⟩ := p
    obtain ⟨e, he, re⟩ := rx.getV hx
    have hk : Same (hid (ads M ++ Dl :: F) H2) (hid (ads M ++ Dl :: F) H') := fun b o z => by
      obtain ⟨n, z⟩ := hid_some z
      rw [hid_out n]
      exact hb b o (fun w => n (by rw [w]; exact List.mem_append_right _ (List.mem_cons_self ..))) z
    have s3 : Sl K (ads M ++ Dl :: F) H' ((L2.wipe σ vs).set j (some x)) (Γ.set j (some e)) := (((s.mono e2).keep hk).wipe hv).set j (re.mono hk)
    refine ⟨wipe_set_in hj, ?_⟩
    show tIn te Dl ks _ H' _
    have hlen : ((ds.take i).flatMap f).length + (f e).length ≤ (ds.flatMap f).length := by
      have h5 : ds.take (i + 1) = ds.take i ++ [e] := by rw [List.take_succ, he]; rfl
      have h6 : (ds.flatMap f) = (ds.take (i + 1)).flatMap f ++ (ds.drop (i + 1)).flatMap f := by rw [← List.flatMap_append, List.take_append_drop]
      rw [h6, h5, List.flatMap_append, List.length_append, List.length_append]
      simp only [List.flatMap_cons, List.flatMap_nil, List.append_nil]
      omega
    refine hf e (List.mem_of_getElem? he) Dl H1 _ H' _ hD m ci s3 (by rw [List.length_append]; omega) _ fun H3 c3 kb => ⟨fun b o hn z => kb b o hn (hb b o hn z), ?_⟩
    have h5 : ds.take (i + 1) = ds.take i ++ [e] := by rw [List.take_succ, he]; rfl
    rw [h5, List.flatMap_append]
    simp only [List.flatMap_cons, List.flatMap_nil, List.append_nil]
    rw [← List.append_assoc]
    exact c3
  · rw [rx.len, List.take_length] at p
    exact q H' p.2 fun b o hn z => p.1 b o hn (e2 b o z)
/-- all clauses -/
theorem en_lcN {j : Nat} {vs : List Nat} {ks : List Cl} {ds : List Dv} (f : Dv → List Dv) (hl : EvD K F M tl' Γ (.lst ds)) (hj : j ∈ vs) (hv : ∀ i ∈ vs, ∀ d, Γ[i]? ≠ some (some d)) (hz : (ds.flatMap f).length ≤ 60000)
    (hf : ∀ e ∈ ds, EvIn K F M te ks (Γ.set j (some e)) (f e)) : EvN K F M (tLcN (iList K tl') (gName j) tYes vs te ks) Γ (ds.flatMap f) := fun σ H m s Q q => hl σ H m s _ fun v H2 e2 r2 => by
  cases r2 with
  | @lst a xs _ h2 rx =>
  have m2 := m.mono e2
  have s2 := s.mono e2
  refine ⟨a, rfl, ⟨xs, .inl (.inl (hid_some h2).2)⟩, fun Dl hD => ?_⟩
  refine walk_list (xs := xs) (B := fun x H' Ny => gName j x (L2.wipe σ vs) H' fun σ3 H5 => L2.wipe σ3 vs = L2.wipe σ vs ∧ tYes σ3 H5 fun b H6 => if b = true then tIn te Dl ks σ3 H6 Ny else Ny H6)
    (fun i H' => Lcs K F M H2 Dl ((ds.take i).flatMap f) H') ⟨same_new hD, [], upd_same, .nil⟩ (fun i H' p => .inl (.inl (p.e a _ (hid_some h2).2))) (fun i x H' hx ci => ?_) fun H' p => ?_
  · obtain ⟨e, he, re⟩ := rx.getV hx
    have hk := ci.keep hD
    have s3 : Sl K (ads M ++ Dl :: F) H' ((L2.wipe σ vs).set j (some x)) (Γ.set j (some e)) := ((s2.keep hk).wipe hv).set j (re.mono hk)
    refine ⟨wipe_set_in hj, ?_⟩
    show tIn te Dl ks _ H' _
    have h5 : ds.take (i + 1) = ds.take i ++ [e] := by rw [List.take_succ, he]; rfl
    have hlen : ((ds.take i).flatMap f).length + (f e).length ≤ (ds.flatMap f).length := by
      have h6 : (ds.flatMap f) = (ds.take (i + 1)).flatMap f ++ (ds.drop (i + 1)).flatMap f := by rw [← List.flatMap_append, List.take_append_drop]
      rw [h6, h5, List.flatMap_append, List.length_append, List.length_append]
      simp only [List.flatMap_cons, List.flatMap_nil, List.append_nil]
      omega
    refine hf e (List.mem_of_getElem? he) Dl H2 _ H' _ hD m2 ci s3 (by omega) _ fun H3 c3 kb => ?_
    rw [h5, List.flatMap_append]
    simp only [List.flatMap_cons, List.flatMap_nil, List.append_nil]
    exact c3
  · rw [rx.len, List.take_length] at p
    obtain ⟨ys, hy, ry⟩ := p.l
    exact q Dl H' ys (none_back e2 hD) (e2.trans p.e) hy ry
end
end Dw
namespace Dw
open PySem L2 TL
theorem getD_set {α : Type} {l : List α} {i j : Nat} {a d : α} : (l.set i a).getD j d = if i = j ∧ j < l.length then a else l.getD j d := by
  rw [List.getD_eq_getElem?_getD, List.getD_eq_getElem?_getD, List.getElem?_set]
  by_cases h : i = j
  · subst h
    by_cases hl : i < l.length
    · rw [if_pos rfl, if_pos hl, if_pos ⟨rfl, hl⟩]; rfl
    · rw [if_pos rfl, if_neg hl, if_neg (fun z => hl z.2), List.getElem?_eq_none (by omega)]
  · rw [if_neg h, if_neg (fun z => h z.1)]
def undo1 (w : Nat) : Ac → List (Option Nat) → Option (List (Option Nat))
  | .add r n, k => match k.getD r none with
    | none => some k
    | some a => some (k.set r (some ((a + w - n) % w)))
  | .copy r s, k => if r = s then some k else match k.getD s none with
    | none => some ((k.set s (k.getD r none)).set r none)
    | some b => match k.getD r none with
      | none => some (k.set r none)
      | some a => if a = b then some (k.set r none) else none
  | .swap r s, k => some ((k.set r (k.getD s none)).set s (k.getD r none))
  | .emr _, k => some k
  | .emn _, k => some k
theorem undo1_add {w r n : Nat} {k : List (Option Nat)} : undo1 w (.add r n) k = match k.getD r none with
    | none => some k
    | some a => some (k.set r (some ((a + w - n) % w))) := rfl
theorem undo1_copy {w r s : Nat} {k : List (Option Nat)} : undo1 w (.copy r s) k = if r = s then some k else match k.getD s none with
    | none => some ((k.set s (k.getD r none)).set r none)
    | some b => match k.getD r none with
      | none => some (k.set r none)
      | some a => if a = b then some (k.set r none) else none := rfl
def undoV (w : Nat) : List Ac → List (Option Nat) → Option (List (Option Nat))
  | [], k => some k
  | c :: r, k => match undo1 w c k with
    | none => none
    | some k' => undoV w r k'
/-- what is known of registers -/
structure Kn (w : Nat) (k : List (Option Nat)) : Prop where
  ln : k.length = 4
  lt : ∀ i x, k.getD i none = some x → x < w
  ex : ∃ i < 4, k.getD i none ≠ none
def Mt (k : List (Option Nat)) (v : List Nat) : Prop := ∀ i < 4, ∀ x, k.getD i none = some x → v.getD i 0 = x
theorem mod2 {x w : Nat} (h : x < 2 * w) : x % w = if x < w then x else x - w := by
  by_cases hl : x < w
  · rw [if_pos hl, Nat.mod_eq_of_lt hl]
  · rw [if_neg hl, Nat.mod_eq_sub_mod (by omega), Nat.mod_eq_of_lt (by omega)]
theorem undo1_kn {w : Nat} (hw : 0 < w) {c : Ac} (hc : c.ok w) {k k' : List (Option Nat)} (h : Kn w k) (e : undo1 w c k = some k') : Kn w k' := by
  have hl := h.ln
  cases c with
  | add r n =>
    have hr : r < 4 := hc.1
    rw [undo1_add] at e
    cases hk : k.getD r none with
    | none => rw [hk] at e; cases e; exact h
    | some a =>
      rw [hk] at e
      cases e
      refine ⟨by rw [List.length_set]; exact hl, fun i x hx => ?_, ⟨r, hr, ?_⟩⟩
      · rw [getD_set] at hx
        by_cases z : r = i ∧ i < k.length
        · rw [if_pos z] at hx
          cases hx
          exact Nat.mod_lt _ hw
        · rw [if_neg z] at hx
          exact h.lt i x hx
      · rw [getD_set, if_pos ⟨rfl, by omega⟩]
        exact fun z => nomatch z
  | copy r s =>
    have hr : r < 4 := hc.1
    have hs : s < 4 := hc.2
    rw [undo1_copy] at e
    by_cases hrs : r = s
    · rw [if_pos hrs] at e; cases e; exact h
    · rw [if_neg hrs] at e
      cases hks : k.getD s none with
      | none =>
        rw [hks] at e
        cases e
        refine ⟨by rw [List.length_set, List.length_set]; exact hl, fun i x hx => ?_, ?_⟩
        · rw [getD_set, getD_set] at hx
          split at hx
          · cases hx
          · split at hx
            · exact h.lt r x hx
            · exact h.lt i x hx
        · obtain ⟨i, hi, hne⟩ := h.ex
          by_cases z : i = r
          · refine ⟨s, hs, ?_⟩
            rw [getD_set, getD_set, if_neg (fun q => hrs q.1), if_pos ⟨rfl, by omega⟩, ← z]
            exact hne
          · refine ⟨i, hi, ?_⟩
            rw [getD_set, getD_set, if_neg (fun q => z q.1.symm)]
            by_cases z2 : s = i
            · exact absurd (by rw [← z2]; exact hks) hne
            · rw [if_neg (fun q => z2 q.1)]
              exact hne
      | some b =>
        rw [hks] at e
        have key : ∀ k', k' = k.set r none → Kn w k' := fun k' hk' => by
          subst hk'
          refine ⟨by rw [List.length_set]; exact hl, fun i x hx => ?_, ⟨s, hs, ?_⟩⟩
          · rw [getD_set] at hx
            split at hx
            · cases hx
            · exact h.lt i x hx
          · rw [getD_set, if_neg (fun q => hrs q.1), hks]
            exact fun z => nomatch z
        cases hkr : k.getD r none with
        | none => rw [hkr] at e; exact key _ (Option.some.inj e).symm
        | some a =>
          rw [hkr] at e
          by_cases hab : a = b
          · have e2 : (if a = b then some (k.set r none) else none) = some k' := e
            rw [if_pos hab] at e2
            exact key _ (Option.some.inj e2).symm
          · have e2 : (if a = b then some (k.set r none) else none) = some k' := e
            rw [if_neg hab] at e2
            cases e2
  | swap r s =>
    have hr : r < 4 := hc.1
    have hs : s < 4 := hc.2
    cases e
    refine ⟨by rw [List.length_set, List.length_set]; exact hl, fun i x hx => ?_, ?_⟩
    · rw [getD_set, getD_set] at hx
      split at hx
      · exact h.lt r x hx
      · split at hx
        · exact h.lt s x hx
        · exact h.lt i x hx
    · obtain ⟨i, hi, hne⟩ := h.ex
      by_cases z : i = r
      · refine ⟨s, hs, ?_⟩
        rw [getD_set, if_pos ⟨rfl, by rw [List.length_set]; omega⟩, ← z]
        exact hne
      · by_cases z2 : i = s
        · refine ⟨r, hr, ?_⟩
          rw [getD_set, getD_set, if_neg (fun q => z (by rw [z2, q.1])), if_pos ⟨rfl, by omega⟩, ← z2]
          exact hne
        · refine ⟨i, hi, ?_⟩
          rw [getD_set, getD_set, if_neg (fun q => z2 q.1.symm), if_neg (fun q => z q.1.symm)]
          exact hne
  | emr r => cases e; exact h
  | emn n => cases e; exact h
theorem undo1_ok {w : Nat} {c : Ac} (hc : c.ok w) {k : List (Option Nat)} (h : Kn w k) {v : List Nat} (hv : v.length = 4) (hvw : ∀ i < 4, v.getD i 0 < w) : Mt k (actV w v c) ↔ ∃ k', undo1 w c k = some k' ∧ Mt k' v := by
  have hl := h.ln
  cases c with
  | add r n =>
    have hr : r < 4 := hc.1
    have hn : n < w := hc.2
    rw [undo1_add]
    cases hk : k.getD r none with
    | none =>
      constructor
      · intro m
        refine ⟨k, rfl, fun i hi x hx => ?_⟩
        have := m i hi x hx
        unfold actV at this
        rw [getD_set, if_neg (fun q => by rw [← q.1, hk] at hx; cases hx)] at this
        exact this
      · rintro ⟨k', e, m⟩
        cases e
        intro i hi x hx
        unfold actV
        rw [getD_set, if_neg (fun q => by rw [← q.1, hk] at hx; cases hx)]
        exact m i hi x hx
    | some a =>
      have ha := h.lt r a hk
      have hvr := hvw r hr
      have key : (v.getD r 0 + n) % w = a ↔ v.getD r 0 = (a + w - n) % w := by
        rw [mod2 (by omega), mod2 (by omega)]
        split <;> split <;> omega
      constructor
      · intro m
        refine ⟨_, rfl, fun i hi x hx => ?_⟩
        by_cases z : r = i
        · rw [getD_set, if_pos ⟨z, by omega⟩] at hx
          cases hx
          have := m r hr a hk
          unfold actV at this
          rw [getD_set, if_pos ⟨rfl, by omega⟩] at this
          rw [← z]
          exact key.mp this
        · rw [getD_set, if_neg (fun q => z q.1)] at hx
          have := m i hi x hx
          unfold actV at this
          rw [getD_set, if_neg (fun q => z q.1)] at this
          exact this
      · rintro ⟨k', e, m⟩
        cases e
        intro i hi x hx
        unfold actV
        by_cases z : r = i
        · rw [getD_set, if_pos ⟨z, by omega⟩]
          subst z
          rw [hk] at hx
          cases hx
          refine key.mpr (m r hr _ ?_)
          rw [getD_set, if_pos ⟨rfl, by omega⟩]
        · rw [getD_set, if_neg (fun q => z q.1)]
          refine m i hi x ?_
          rw [getD_set, if_neg (fun q => z q.1)]
          exact hx
  | copy r s =>
    have hr : r < 4 := hc.1
    have hs : s < 4 := hc.2
    have hact : ∀ i, i < 4 → (actV w v (.copy r s)).getD i 0 = if r = i then v.getD s 0 else v.getD i 0 := fun i hi => by
      unfold actV
      rw [getD_set]
      by_cases z : r = i
      · rw [if_pos ⟨z, by omega⟩, if_pos z]
      · rw [if_neg (fun q => z q.1), if_neg z]
    rw [undo1_copy]
    by_cases hrs : r = s
    · rw [if_pos hrs]
      have e : ∀ i, i < 4 → (actV w v (.copy r s)).getD i 0 = v.getD i 0 := fun i hi => by
        rw [hact i hi]
        by_cases z : r = i
        · rw [if_pos z, ← hrs, z]
        · rw [if_neg z]
      constructor
      · exact fun m => ⟨k, rfl, fun i hi x hx => by rw [← e i hi]; exact m i hi x hx⟩
      · rintro ⟨k', e', m⟩
        cases e'
        exact fun i hi x hx => by rw [e i hi]; exact m i hi x hx
    · rw [if_neg hrs]
      cases hks : k.getD s none with
      | none =>
        constructor
        · intro m
          refine ⟨_, rfl, fun i hi x hx => ?_⟩
          rw [getD_set, getD_set] at hx
          split at hx
          · cases hx
          · rename_i z
            have z : r ≠ i := fun q => z ⟨q, by rw [List.length_set]; omega⟩
            split at hx
            · rename_i z2
              have := m r hr x hx
              rw [hact r hr, if_pos rfl] at this
              rw [← z2.1]
              exact this
            · have := m i hi x hx
              rw [hact i hi, if_neg z] at this
              exact this
        · rintro ⟨k', e, m⟩
          cases e
          intro i hi x hx
          rw [hact i hi]
          by_cases z : r = i
          · rw [if_pos z]
            refine m s hs x ?_
            rw [getD_set, getD_set, if_neg (fun q => hrs q.1), if_pos ⟨rfl, by omega⟩, z]
            exact hx
          · rw [if_neg z]
            refine m i hi x ?_
            rw [getD_set, getD_set, if_neg (fun q => z q.1), if_neg (fun q => by rw [← q.1, hks] at hx; cases hx)]
            exact hx
      | some b =>
        have key : Mt (k.set r none) v ∧ (∀ a, k.getD r none = some a → a = b) ↔ Mt k (actV w v (.copy r s)) := by
          constructor
          · rintro ⟨m, hab⟩ i hi x hx
            rw [hact i hi]
            by_cases z : r = i
            · rw [if_pos z]
              have := hab x (by rw [z]; exact hx)
              rw [this]
              refine m s hs b ?_
              rw [getD_set, if_neg (fun q => hrs q.1)]
              exact hks
            · rw [if_neg z]
              refine m i hi x ?_
              rw [getD_set, if_neg (fun q => z q.1)]
              exact hx
          · intro m
            refine ⟨fun i hi x hx => ?_, fun a ha => ?_⟩
            · rw [getD_set] at hx
              split at hx
              · cases hx
              · rename_i z
                have z : r ≠ i := fun q => z ⟨q, by omega⟩
                have := m i hi x hx
                rw [hact i hi, if_neg z] at this
                exact this
            · have h1 := m r hr a ha
              rw [hact r hr, if_pos rfl] at h1
              have h2 := m s hs b hks
              rw [hact s hs, if_neg hrs] at h2
              omega
        rw [← key]
        cases hkr : k.getD r none with
        | none =>
          constructor
          · exact fun m => ⟨_, rfl, m.1⟩
          · rintro ⟨k', e, m⟩
            have e : k' = k.set r none := (Option.some.inj e).symm
            subst e
            exact ⟨m, fun a ha => nomatch ha⟩
        | some a =>
          show _ ↔ ∃ k', (if a = b then some (k.set r none) else none) = some k' ∧ Mt k' v
          by_cases hab : a = b
          · rw [if_pos hab]
            constructor
            · exact fun m => ⟨_, rfl, m.1⟩
            · rintro ⟨k', e, m⟩
              have e : k' = k.set r none := (Option.some.inj e).symm
              subst e
              exact ⟨m, fun a' ha => by cases ha; exact hab⟩
          · rw [if_neg hab]
            constructor
            · exact fun m => absurd (m.2 a rfl) hab
            · rintro ⟨k', e, _⟩
              cases e
  | swap r s =>
    have hr : r < 4 := hc.1
    have hs : s < 4 := hc.2
    have hact : ∀ i, i < 4 → (actV w v (.swap r s)).getD i 0 = if s = i then v.getD r 0 else if r = i then v.getD s 0 else v.getD i 0 := fun i hi => by
      unfold actV
      rw [getD_set, getD_set]
      by_cases z : s = i
      · rw [if_pos ⟨z, by rw [List.length_set]; omega⟩, if_pos z]
      · rw [if_neg (fun q => z q.1), if_neg z]
        by_cases z2 : r = i
        · rw [if_pos ⟨z2, by omega⟩, if_pos z2]
        · rw [if_neg (fun q => z2 q.1), if_neg z2]
    have hkk : ∀ i, i < 4 → ((k.set r (k.getD s none)).set s (k.getD r none)).getD i none = if s = i then k.getD r none else if r = i then k.getD s none else k.getD i none := fun i hi => by
      rw [getD_set, getD_set]
      by_cases z : s = i
      · rw [if_pos ⟨z, by rw [List.length_set]; omega⟩, if_pos z]
      · rw [if_neg (fun q => z q.1), if_neg z]
        by_cases z2 : r = i
        · rw [if_pos ⟨z2, by omega⟩, if_pos z2]
        · rw [if_neg (fun q => z2 q.1), if_neg z2]
    constructor
    · intro m
      refine ⟨_, rfl, fun i hi x hx => ?_⟩
      rw [hkk i hi] at hx
      by_cases z : s = i
      · rw [if_pos z] at hx
        have := m r hr x hx
        rw [hact r hr] at this
        by_cases z2 : s = r
        · rw [if_pos z2] at this
          rw [← z, z2]; exact this
        · rw [if_neg z2, if_pos rfl] at this
          rw [← z]; exact this
      · rw [if_neg z] at hx
        by_cases z2 : r = i
        · rw [if_pos z2] at hx
          have := m s hs x hx
          rw [hact s hs, if_pos rfl] at this
          rw [← z2]; exact this
        · rw [if_neg z2] at hx
          have := m i hi x hx
          rw [hact i hi, if_neg z, if_neg z2] at this
          exact this
    · rintro ⟨k', e, m⟩
      cases e
      intro i hi x hx
      rw [hact i hi]
      by_cases z : s = i
      · rw [if_pos z]
        refine m r hr x ?_
        rw [hkk r hr]
        by_cases z2 : s = r
        · rw [if_pos z2, ← z2, z]; exact hx
        · rw [if_neg z2, if_pos rfl, z]; exact hx
      · rw [if_neg z]
        by_cases z2 : r = i
        · rw [if_pos z2]
          refine m s hs x ?_
          rw [hkk s hs, if_pos rfl, z2]; exact hx
        · rw [if_neg z2]
          refine m i hi x ?_
          rw [hkk i hi, if_neg z, if_neg z2]; exact hx
  | emr r => exact ⟨fun m => ⟨k, rfl, m⟩, fun ⟨k', e, m⟩ => by cases e; exact m⟩
  | emn n => exact ⟨fun m => ⟨k, rfl, m⟩, fun ⟨k', e, m⟩ => by cases e; exact m⟩
theorem runV_fold (w : Nat) (acs : List Ac) (v : List Nat) : (runV w acs v).1 = acs.foldl (actV w) v := by
  have key : ∀ (acs : List Ac) (v e : List Nat), (acs.foldl (fun p c => (actV w p.1 c, p.2 ++ emV p.1 c)) (v, e)).1 = acs.foldl (actV w) v := fun acs => by
    induction acs with
    | nil => intro v e; rfl
    | cons c acs ih => intro v e; exact ih _ _
  exact key acs v []
theorem undoV_app (w : Nat) (c : Ac) : ∀ (l : List Ac) (k : List (Option Nat)), undoV w (l ++ [c]) k = match undoV w l k with
    | none => none
    | some k' => undo1 w c k'
  | [], k => by
    show (match undo1 w c k with | none => none | some k' => some k') = undo1 w c k
    cases undo1 w c k <;> rfl
  | d :: l, k => by
    show (match undo1 w d k with | none => none | some k' => undoV w (l ++ [c]) k') = match (match undo1 w d k with | none => none | some k' => undoV w l k') with | none => none | some k' => undo1 w c k'
    cases undo1 w d k with
    | none => rfl
    | some k' => exact undoV_app w c l k'
theorem undoV_kn {w : Nat} (hw : 0 < w) : ∀ {l : List Ac} {k k' : List (Option Nat)}, (∀ c ∈ l, c.ok w) → Kn w k → undoV w l k = some k' → Kn w k'
  | [], _, _, _, h, e => by cases e; exact h
  | c :: l, k, k', hc, h, e => by
    cases e1 : undo1 w c k with
    | none => unfold undoV at e; rw [e1] at e; cases e
    | some k1 =>
      unfold undoV at e
      rw [e1] at e
      exact undoV_kn hw (fun d hd => hc d (List.mem_cons_of_mem _ hd)) (undo1_kn hw (hc c (List.mem_cons_self ..)) h e1) e
theorem actV_getD {w : Nat} (hw : 0 < w) {v : List Nat} (hvw : ∀ i < 4, v.getD i 0 < w) (hv : v.length = 4) (c : Ac) : ∀ i < 4, (actV w v c).getD i 0 < w := by
  have h1 : ∀ x ∈ v, x < w := fun x hx => by
    obtain ⟨i, hi, e⟩ := List.mem_iff_getElem.mp hx
    have := hvw i (by omega)
    rw [List.getD_eq_getElem?_getD, List.getElem?_eq_getElem hi] at this
    rw [← e]; exact this
  intro i hi
  have h2 := actV_lt hw h1 c
  have hl : i < (actV w v c).length := by rw [actV_len]; omega
  rw [List.getD_eq_getElem?_getD, List.getElem?_eq_getElem hl]
  exact h2 _ (List.getElem_mem hl)
theorem undoV_ok {w : Nat} (hw : 0 < w) : ∀ {acs : List Ac} {k : List (Option Nat)} {v : List Nat}, (∀ c ∈ acs, c.ok w) → Kn w k → v.length = 4 → (∀ i < 4, v.getD i 0 < w) → (Mt k (acs.foldl (actV w) v) ↔ ∃ k', undoV w acs.reverse k = some k' ∧ Mt k' v)
  | [], k, v, _, _, _, _ => ⟨fun m => ⟨k, rfl, m⟩, fun ⟨k', e, m⟩ => by cases e; exact m⟩
  | c :: acs, k, v, hc, h, hv, hvw => by
    have hc1 := hc c (List.mem_cons_self ..)
    have ih := undoV_ok hw (acs := acs) (k := k) (v := actV w v c) (fun d hd => hc d (List.mem_cons_of_mem _ hd)) h (by rw [actV_len]; exact hv) (actV_getD hw hvw hv c)
    show Mt k (acs.foldl (actV w) (actV w v c)) ↔ _
    rw [ih, List.reverse_cons, undoV_app]
    cases e1 : undoV w acs.reverse k with
    | none => exact ⟨fun ⟨_, e, _⟩ => (nomatch e), fun ⟨_, e, _⟩ => (nomatch e)⟩
    | some k1 =>
      have hk1 := undoV_kn hw (fun d hd => hc d (List.mem_cons_of_mem _ (List.mem_reverse.mp hd))) h e1
      have h2 := undo1_ok hc1 hk1 hv hvw
      show (∃ k', some k1 = some k' ∧ Mt k' (actV w v c)) ↔ ∃ k', undo1 w c k1 = some k' ∧ Mt k' v
      rw [← h2]
      exact ⟨fun ⟨_, e, m⟩ => by cases e; exact m, fun m => ⟨_, rfl, m⟩⟩
end Dw
namespace Dw
open PySem L2 TL
/-- what registers can be -/
def chV (w : Nat) : Option Nat → List Nat
  | none => List.range w
  | some x => [x]
def prodV (a b c d : List Nat) : List (List Nat) := a.flatMap fun p => b.flatMap fun q => c.flatMap fun r => d.flatMap fun s => [[p, q, r, s]]
theorem mem_prodV {a b c d u : List Nat} : u ∈ prodV a b c d ↔ ∃ p q r s, u = [p, q, r, s] ∧ p ∈ a ∧ q ∈ b ∧ r ∈ c ∧ s ∈ d := by
  simp only [prodV, List.mem_flatMap, List.mem_singleton]
  constructor
  · rintro ⟨p, hp, q, hq, r, hr, s, hs, rfl⟩; exact ⟨p, q, r, s, rfl, hp, hq, hr, hs⟩
  · rintro ⟨p, q, r, s, rfl, hp, hq, hr, hs⟩; exact ⟨p, hp, q, hq, r, hr, s, hs, rfl⟩
theorem mem_chV {w : Nat} {o : Option Nat} {x : Nat} (h : ∀ y, o = some y → y < w) : x ∈ chV w o ↔ x < w ∧ ∀ y, o = some y → x = y := by
  cases o with
  | none => exact ⟨fun z => ⟨List.mem_range.mp z, fun _ e => nomatch e⟩, fun z => List.mem_range.mpr z.1⟩
  | some y =>
    refine ⟨fun z => ?_, fun z => ?_⟩
    · have : x = y := List.mem_singleton.mp z
      subst this
      exact ⟨h _ rfl, fun _ e => by cases e; rfl⟩
    · exact List.mem_singleton.mpr (z.2 y rfl)
theorem four {v : List Nat} (h : v.length = 4) : ∃ a b c d, v = [a, b, c, d] := by
  match v, h with
  | [a, b, c, d], _ => exact ⟨a, b, c, d, rfl⟩
def prodK (w : Nat) (k : List (Option Nat)) : List (List Nat) := prodV (chV w (k.getD 0 none)) (chV w (k.getD 1 none)) (chV w (k.getD 2 none)) (chV w (k.getD 3 none))
theorem mem_prodK {w : Nat} {k : List (Option Nat)} (h : Kn w k) {u : List Nat} : u ∈ prodK w k ↔ u.length = 4 ∧ (∀ i < 4, u.getD i 0 < w) ∧ Mt k u := by
  unfold prodK
  rw [mem_prodV]
  constructor
  · rintro ⟨p, q, r, s, rfl, hp, hq, hr, hs⟩
    have hp := (mem_chV (h.lt 0)).mp hp
    have hq := (mem_chV (h.lt 1)).mp hq
    have hr := (mem_chV (h.lt 2)).mp hr
    have hs := (mem_chV (h.lt 3)).mp hs
    refine ⟨rfl, fun i hi => ?_, fun i hi x hx => ?_⟩
    · match i, hi with
      | 0, _ => exact hp.1
      | 1, _ => exact hq.1
      | 2, _ => exact hr.1
      | 3, _ => exact hs.1
    · match i, hi with
      | 0, _ => exact hp.2 x hx
      | 1, _ => exact hq.2 x hx
      | 2, _ => exact hr.2 x hx
      | 3, _ => exact hs.2 x hx
  · rintro ⟨h4, hw, hm⟩
    obtain ⟨a, b, c, d, rfl⟩ := four h4
    exact ⟨a, b, c, d, rfl, (mem_chV (h.lt 0)).mpr ⟨hw 0 (by decide), fun y e => hm 0 (by decide) y e⟩, (mem_chV (h.lt 1)).mpr ⟨hw 1 (by decide), fun y e => hm 1 (by decide) y e⟩, (mem_chV (h.lt 2)).mpr ⟨hw 2 (by decide), fun y e => hm 2 (by decide) y e⟩, (mem_chV (h.lt 3)).mpr ⟨hw 3 (by decide), fun y e => hm 3 (by decide) y e⟩⟩
theorem len_flat {α β : Type} (b : Nat) (f : α → List β) : ∀ l : List α, (∀ x ∈ l, (f x).length ≤ b) → (l.flatMap f).length ≤ l.length * b
  | [], _ => Nat.zero_le _
  | x :: l, h => by
    rw [List.flatMap_cons, List.length_append, List.length_cons, Nat.succ_mul]
    have := len_flat b f l fun y hy => h y (List.mem_cons_of_mem _ hy)
    have := h x (List.mem_cons_self ..)
    omega
theorem prodV_len (a b c d : List Nat) : (prodV a b c d).length ≤ a.length * (b.length * (c.length * d.length)) := by
  refine len_flat _ _ _ fun p _ => len_flat _ _ _ fun q _ => len_flat _ _ _ fun r _ => Nat.le_trans (len_flat 1 _ _ fun s _ => Nat.le_refl _) (by rw [Nat.mul_one]; exact Nat.le_refl _)
theorem chV_len {w : Nat} (hw : w ≤ 16) (hw1 : 1 ≤ w) (o : Option Nat) : (chV w o).length ≤ 16 ∧ (o ≠ none → (chV w o).length = 1) := by
  cases o with
  | none => exact ⟨by show (List.range w).length ≤ 16; rw [List.length_range]; exact hw, fun z => absurd rfl z⟩
  | some x => exact ⟨by show 1 ≤ 16; decide, fun _ => rfl⟩
theorem prodK_len {w : Nat} (hw : w ≤ 16) (hw1 : 1 ≤ w) {k : List (Option Nat)} (h : Kn w k) : (prodK w k).length ≤ 4096 := by
  refine Nat.le_trans (prodV_len _ _ _ _) ?_
  obtain ⟨a0, a1⟩ := chV_len hw hw1 (k.getD 0 none)
  obtain ⟨b0, b1⟩ := chV_len hw hw1 (k.getD 1 none)
  obtain ⟨c0, c1⟩ := chV_len hw hw1 (k.getD 2 none)
  obtain ⟨d0, d1⟩ := chV_len hw hw1 (k.getD 3 none)
  obtain ⟨i, hi, hne⟩ := h.ex
  have key : ∀ {x y z : Nat}, x ≤ 16 → y ≤ 16 → z ≤ 16 → x * (y * z) ≤ 4096 := fun hx hy hz => Nat.le_trans (Nat.mul_le_mul hx (Nat.mul_le_mul hy hz)) (by decide)
  match i, hi, hne with
  | 0, _, hne => rw [a1 hne, Nat.one_mul]; exact key b0 c0 d0
  | 1, _, hne => rw [b1 hne, Nat.one_mul]; exact key a0 c0 d0
  | 2, _, hne => rw [c1 hne, Nat.one_mul]; exact key a0 b0 d0
  | 3, _, hne => rw [d1 hne, Nat.mul_one]; exact key a0 b0 c0
/-- the states before a state: by a card that is put at its place -/
def preV (w : Nat) (c : Cd) (A B : List Cd) (v : List Nat) : List (List Cd × List Nat) :=
  if A.length = min (depV v c.pu) (A.length + B.length) then match undoV w c.ac.reverse (v.map some) with
    | none => []
    | some k => (prodK w k).map fun u => (c :: (A ++ B), u)
  else []
theorem kn_some {w : Nat} {v : List Nat} (h4 : v.length = 4) (hw : ∀ x ∈ v, x < w) : Kn w (v.map some) := by
  have hg : ∀ i, (v.map some).getD i none = v[i]? := fun i => by
    rw [List.getD_eq_getElem?_getD, List.getElem?_map]
    cases v[i]? <;> rfl
  refine ⟨by rw [List.length_map]; exact h4, fun i x hx => ?_, ⟨0, by decide, ?_⟩⟩
  · rw [hg] at hx
    exact hw x (List.mem_of_getElem? hx)
  · rw [hg, List.getElem?_eq_getElem (by omega)]
    exact fun z => nomatch z
theorem mt_some {v u : List Nat} (h4 : v.length = 4) (hu : u.length = 4) : Mt (v.map some) u ↔ u = v := by
  obtain ⟨a, b, c, d, rfl⟩ := four h4
  obtain ⟨a', b', c', d', rfl⟩ := four hu
  constructor
  · intro m
    have e0 : a' = a := m 0 (by decide) a rfl
    have e1 : b' = b := m 1 (by decide) b rfl
    have e2 : c' = c := m 2 (by decide) c rfl
    have e3 : d' = d := m 3 (by decide) d rfl
    rw [e0, e1, e2, e3]
  · intro e i hi x hx
    cases e
    match i, hi, hx with
    | 0, _, hx => cases hx; rfl
    | 1, _, hx => cases hx; rfl
    | 2, _, hx => cases hx; rfl
    | 3, _, hx => cases hx; rfl
theorem all_getD {w : Nat} {v : List Nat} (h4 : v.length = 4) : (∀ i < 4, v.getD i 0 < w) ↔ ∀ x ∈ v, x < w := by
  obtain ⟨a, b, c, d, rfl⟩ := four h4
  constructor
  · intro h x hx
    simp only [List.mem_cons, List.not_mem_nil, or_false] at hx
    rcases hx with rfl | rfl | rfl | rfl
    · exact h 0 (by decide)
    · exact h 1 (by decide)
    · exact h 2 (by decide)
    · exact h 3 (by decide)
  · intro h i hi
    match i, hi with
    | 0, _ => exact h _ (by simp)
    | 1, _ => exact h _ (by simp)
    | 2, _ => exact h _ (by simp)
    | 3, _ => exact h _ (by simp)
theorem mem_preV {w : Nat} (hw : 0 < w) {c : Cd} (hc : ∀ a ∈ c.ac, a.ok w) {A B : List Cd} {v : List Nat} (h4 : v.length = 4) (hv : ∀ x ∈ v, x < w) {t : List Cd × List Nat} :
    t ∈ preV w c A B v ↔ ∃ u, t = (c :: (A ++ B), u) ∧ u.length = 4 ∧ (∀ x ∈ u, x < w) ∧ (runV w c.ac u).1 = v ∧ A.length = min (depV v c.pu) (A.length + B.length) := by
  unfold preV
  have hk := kn_some h4 hv
  have run : ∀ u : List Nat, u.length = 4 → (∀ x ∈ u, x < w) → ((runV w c.ac u).1 = v ↔ ∃ k', undoV w c.ac.reverse (v.map some) = some k' ∧ Mt k' u) := fun u hu hx => by
    have hl : (runV w c.ac u).1.length = 4 := by rw [runV_len]; exact hu
    have e := undoV_ok hw (acs := c.ac) hc hk hu ((all_getD hu).mpr hx)
    rw [← e, ← runV_fold]
    exact (mt_some h4 hl).symm
  by_cases hd : A.length = min (depV v c.pu) (A.length + B.length)
  · rw [if_pos hd]
    cases e1 : undoV w c.ac.reverse (v.map some) with
    | none =>
      show t ∈ ([] : List (List Cd × List Nat)) ↔ _
      refine ⟨fun z => (nomatch z), ?_⟩
      rintro ⟨u, rfl, hu, hx, hr, _⟩
      obtain ⟨k', e, _⟩ := (run u hu hx).mp hr
      rw [e1] at e
      cases e
    | some k =>
      have hk2 := undoV_kn hw (fun d hd => hc d (List.mem_reverse.mp hd)) hk e1
      show t ∈ (prodK w k).map _ ↔ _
      rw [List.mem_map]
      constructor
      · rintro ⟨u, hu, rfl⟩
        obtain ⟨u4, ux, um⟩ := (mem_prodK hk2).mp hu
        have ux := (all_getD u4).mp ux
        exact ⟨u, rfl, u4, ux, (run u u4 ux).mpr ⟨k, e1, um⟩, hd⟩
      · rintro ⟨u, rfl, hu, hx, hr, _⟩
        obtain ⟨k', e, m⟩ := (run u hu hx).mp hr
        rw [e1] at e
        cases e
        exact ⟨u, (mem_prodK hk2).mpr ⟨hu, (all_getD hu).mpr hx, m⟩, rfl⟩
  · rw [if_neg hd]
    exact ⟨fun z => (nomatch z), fun ⟨_, _, _, _, _, z⟩ => absurd z hd⟩
theorem preV_len {w : Nat} (hw : w ≤ 16) (hw1 : 1 ≤ w) {c : Cd} (hc : ∀ a ∈ c.ac, a.ok w) {A B : List Cd} {v : List Nat} (h4 : v.length = 4) (hv : ∀ x ∈ v, x < w) : (preV w c A B v).length ≤ 4096 := by
  unfold preV
  split
  · cases e1 : undoV w c.ac.reverse (v.map some) with
    | none => exact Nat.zero_le _
    | some k =>
      show ((prodK w k).map _).length ≤ _
      rw [List.length_map]
      exact prodK_len hw hw1 (undoV_kn hw1 (fun d hd => hc d (List.mem_reverse.mp hd)) (kn_some h4 hv) e1)
  · exact Nat.zero_le _
/-- before and behind a card -/
def befC (c : Cd) (o : List Cd) : List Cd := o.takeWhile fun d => !decide (d.nm = c.nm)
def behC (c : Cd) (o : List Cd) : List Cd := (o.dropWhile fun d => !decide (d.nm = c.nm)).tail
theorem split_nm {c : Cd} {A B : List Cd} (h : c.nm ∉ A.map (·.nm)) : befC c (A ++ c :: B) = A ∧ behC c (A ++ c :: B) = B := by
  induction A with
  | nil => exact ⟨by simp [befC], by simp [behC]⟩
  | cons d A ih =>
    rw [List.map_cons, List.mem_cons, not_or] at h
    obtain ⟨h1, h2⟩ := h
    have hp : (!decide (d.nm = c.nm)) = true := by rw [decide_eq_false fun z => h1 z.symm]; rfl
    obtain ⟨i1, i2⟩ := ih h2
    refine ⟨?_, ?_⟩
    · show (d :: (A ++ c :: B)).takeWhile _ = _
      rw [List.takeWhile_cons, hp, if_pos rfl]
      exact congrArg (d :: ·) i1
    · show ((d :: (A ++ c :: B)).dropWhile _).tail = _
      rw [List.dropWhile_cons, hp, if_pos rfl]
      exact i2
theorem split_at {D : Dk} (hD : D.ok) {o : List Cd} (ho : o.Perm D.cs) {c : Cd} (hc : c ∈ D.cs) : o = befC c o ++ c :: behC c o ∧ c.nm ∉ (befC c o).map (·.nm) := by
  have hco : c ∈ o := ho.mem_iff.mpr hc
  obtain ⟨A, B, e⟩ := List.append_of_mem hco
  have nd : (o.map (·.nm)).Nodup := (ho.map _).nodup_iff.mpr hD.nd
  have hn : c.nm ∉ A.map (·.nm) := by
    rw [e, List.map_append, List.map_cons, List.nodup_append] at nd
    exact fun z => nd.2.2 _ z _ (List.mem_cons_self ..) rfl
  obtain ⟨h1, h2⟩ := split_nm (B := B) hn
  rw [e, h1, h2]
  exact ⟨rfl, hn⟩
def preL (D : Dk) (s : List Cd × List Nat) : List (List Cd × List Nat) := D.cs.flatMap fun c => preV D.w c (befC c s.1) (behC c s.1) s.2
theorem preL_len {D : Dk} (hD : D.ok) {s : List Cd × List Nat} (h4 : s.2.length = 4) (hv : ∀ x ∈ s.2, x < D.w) : (preL D s).length ≤ 32768 := by
  refine Nat.le_trans (len_flat 4096 _ _ fun c hc => preV_len hD.hi (by have := hD.lo; omega) (hD.cs c hc).ac h4 hv) ?_
  have := hD.le
  exact Nat.le_trans (Nat.mul_le_mul_right _ this) (by decide)
/-- the states before a state are those from which a step leads there -/
theorem mem_preL {D : Dk} (hD : D.ok) {s t : List Cd × List Nat} (hs : StOk D s) (hv : ∀ x ∈ s.2, x < D.w) : t ∈ preL D s ↔ StOk D t ∧ (∀ x ∈ t.2, x < D.w) ∧ (stepO D.w t).1 = s := by
  have hw : 0 < D.w := by have := hD.lo; omega
  unfold preL
  rw [List.mem_flatMap]
  constructor
  · rintro ⟨c, hc, ht⟩
    obtain ⟨e, hn⟩ := split_at hD hs.pm hc
    obtain ⟨u, rfl, hu, hx, hr, hd⟩ := (mem_preV hw (hD.cs c hc).ac hs.ln hv).mp ht
    refine ⟨⟨?_, hu⟩, hx, ?_⟩
    · refine List.Perm.trans ?_ hs.pm
      rw [e]
      have h1 := (split_nm (B := behC c s.1) hn)
      rw [h1.1, h1.2]
      exact List.perm_middle.symm
    · show (stepV D.w c (befC c s.1 ++ behC c s.1) u).1 = s
      unfold stepV
      simp only [hr]
      have hl : (befC c s.1 ++ behC c s.1).length = (befC c s.1).length + (behC c s.1).length := List.length_append
      rw [hl, ← hd, List.take_left, List.drop_left, ← e]
  · rintro ⟨ht, hx, he⟩
    obtain ⟨c, r, u, rfl, hc, hr8, hu⟩ := ht.cons hD
    refine ⟨c, hc, (mem_preV hw (hD.cs c hc).ac hs.ln hv).mpr ?_⟩
    have he : (stepV D.w c r u).1 = s := he
    unfold stepV at he
    simp only at he
    have e1 : s.2 = (runV D.w c.ac u).1 := by rw [← he]
    have e2 : s.1 = r.take (min (depV (runV D.w c.ac u).1 c.pu) r.length) ++ c :: r.drop (min (depV (runV D.w c.ac u).1 c.pu) r.length) := by rw [← he]
    generalize hd : min (depV (runV D.w c.ac u).1 c.pu) r.length = d at *
    have nd : ((c :: r).map (·.nm)).Nodup := (ht.pm.map _).nodup_iff.mpr hD.nd
    rw [List.map_cons, List.nodup_cons] at nd
    have hn : c.nm ∉ (r.take d).map (·.nm) := fun z => nd.1 (by
      obtain ⟨x, hx, e⟩ := List.mem_map.mp z
      exact List.mem_map.mpr ⟨x, List.mem_of_mem_take hx, e⟩)
    obtain ⟨h1, h2⟩ := split_nm (B := r.drop d) hn
    rw [e2, h1, h2]
    have hdr : d ≤ r.length := by rw [← hd]; exact Nat.min_le_right _ _
    refine ⟨u, by rw [List.take_append_drop], hu, hx, e1.symm, ?_⟩
    rw [List.length_take, List.length_drop, e1, Nat.min_eq_left hdr, Nat.add_sub_cancel' hdr]
    exact hd.symm
end Dw
namespace Dw
open PySem L2 TL
section
variable {K : PySem.W.Frag} {Pm F : List Addr} {M : Mu} {Γ : Ga} {te to : TE} {x y z d : Dv} {R : Dv → Mu → Prop} {P : Po} {H0 H H' : Hp} {σ : L2.St} {ts : TS}
/-- for name in reversed(a tuple) -/
theorem ws_forV {g : TG} {tl : TE} (h : WpX K Pm F tl Γ M fun d M1 => ∃ ds, d = .tup ds ∧ ∃ I : Nat → Ga → Mu → Prop, I 0 Γ M1 ∧
      (∀ i e Γ' M', ds.reverse[i]? = some e → I i Γ' M' → ∃ Γ'', TgD K g e Γ' Γ'' ∧ WpS K Pm F ts Γ'' M' { n := I (i + 1), c := I (i + 1), b := P.n, r := P.r }) ∧
      ∀ Γ' M', I ds.length Γ' M' → P.n Γ' M') : WpS K Pm F (tFor (RT.iRevA K tl) g ts) Γ M P := fun H0 σ H D S n r b c =>
  h H0 σ H S _ fun v H1 d M1 ⟨ds, hd, I, h0, ht, he⟩ S1 k1 r1 => by
    obtain ⟨a, xs, rfl, hq, rx⟩ : ∃ a xs, v = .ref a ∧ SqT K (hid (ads M1 ++ F) H1) a xs ∧ RpL K (hid (ads M1 ++ F) H1) xs ds := by
      subst hd
      cases r1 with
      | tup h r => exact ⟨_, _, rfl, h.1, r⟩
    have hlen := rx.len
    refine ⟨a, xs, rfl, .inr ⟨sqT_hid hq, fun i m σ' H' => m + i = xs.length ∧ Wd K Pm F M1 H0 H1 (I i) σ' H', ⟨xs.length, Nat.add_zero _, Γ, M1, h0, S1, Same.refl _⟩, fun i m σ' H' ⟨hm, p⟩ => ?_⟩⟩
    obtain ⟨Γ', M', hI, S', k'⟩ := p
    have hq' : SqT K H' a xs := sqT_hid (sqT_mono k' hq)
    rcases Nat.lt_or_ge i xs.length with hi | hi
    · have hx : xs[xs.length - 1 - i]? = some xs[xs.length - 1 - i] := List.getElem?_eq_getElem (by omega)
      refine .inr ⟨⟨hi, xs, _, hq', hx⟩, Wd K Pm F M1 H0 H1 (I (i + 1)), fun σ2 H2 p2 => ⟨m - 1, by omega, by omega, p2⟩, fun x H2 hy => ?_⟩
      have hx2 := hy.2 xs hq'
      rw [hy.1]
      obtain ⟨e, he', re⟩ := rx.getV hx2
      have hrev : ds.reverse[i]? = some e := by
        rw [List.getElem?_reverse (by omega), ← hlen]
        exact he'
      obtain ⟨Γ'', tg, hb⟩ := ht i e Γ' M' hrev hI
      refine tg _ σ' H' x S'.s (re.mono k') _ fun σ2 s2 => ?_
      exact hb H0 σ2 H' _ ⟨S'.fr, S'.loc, S'.ms, s2⟩ (fun σ3 H3 Γ3 M3 q3 S3 k3 => ⟨Γ3, M3, q3, S3, k'.trans k3⟩) (fun v σ3 H3 Γ3 d M3 q3 S3 k3 r3 => r v σ3 H3 Γ3 d M3 q3 S3 ((k1.trans k').trans k3) r3)
        (fun σ3 H3 Γ3 M3 q3 S3 k3 => n σ3 H3 Γ3 M3 q3 S3 ((k1.trans k').trans k3)) (fun σ3 H3 Γ3 M3 q3 S3 k3 => ⟨Γ3, M3, q3, S3, k'.trans k3⟩)
    · have e : i = ds.length := by omega
      rw [e] at hI
      exact .inl ⟨hi, n σ' H' Γ' M' (he Γ' M' hI) S' (k1.trans k')⟩
/-- t.index(x), t a tuple of texts -/
theorem ed_tixT {ys : List Str} {z : Str} {j : Nat} (ho : EvD K F M to Γ (.tup (ys.map Dv.str))) (h : EvD K F M te Γ (.str z)) (hj : ys[j]? = some z) (hb : ∀ m, m < j → ys[m]? ≠ some z) : EvD K F M (tBMn K (rTix K) to (tCons te tNil)) Γ (iN j) := fun σ H m s Q q =>
  ho σ H m s _ fun v H1 e1 r1 => by
    obtain ⟨a, xs, rfl, h1, rx⟩ : ∃ a xs, v = .ref a ∧ SqN K (hid (ads M ++ F) H1) a xs ∧ RpL K (hid (ads M ++ F) H1) xs (ys.map Dv.str) := by
      cases r1 with
      | tup h r => exact ⟨_, _, rfl, h, r⟩
    have hs := RpL.strs_of rx
    subst hs
    have h2 := sqN_mono (hid_sub _ _) h1
    refine ⟨⟨a, rfl, h2.2⟩, h σ H1 (m.mono e1) (s.mono e1) _ fun w H2 e2 r2 => ?_⟩
    cases r2
    exact ⟨a, ys, z, j, rfl, rfl, sqT_mono e2 h2.1, hj, hb, q _ H2 (e1.trans e2) (.int _)⟩
end
theorem undoV_pre {w : Nat} : ∀ (l1 l2 : List Ac) (k : List (Option Nat)), undoV w l1 k = none → undoV w (l1 ++ l2) k = none
  | [], _, _, h => nomatch h
  | c :: r, l2, k, h => by
    rw [List.cons_append]
    unfold undoV at h ⊢
    cases q : undo1 w c k with
    | none => rfl
    | some k' => rw [q] at h; exact undoV_pre r l2 k' h
theorem undoV_stop {w i : Nat} {l : List Ac} {k : List (Option Nat)} (h : undoV w (l.take i) k = none) : undoV w l k = none := by
  have := undoV_pre (l.take i) (l.drop i) k h
  rwa [List.take_append_drop] at this
theorem undo1_len {w : Nat} {c : Ac} {k k' : List (Option Nat)} (h : undo1 w c k = some k') : k'.length = k.length := by
  cases c with
  | add r n =>
    rw [undo1_add] at h
    split at h <;> cases h <;> first | rfl | exact List.length_set
  | copy r s =>
    rw [undo1_copy] at h
    split at h
    · cases h; rfl
    · split at h
      · cases h; rw [List.length_set, List.length_set]
      · split at h
        · cases h; exact List.length_set
        · split at h <;> cases h; exact List.length_set
  | swap r s => cases h; rw [List.length_set, List.length_set]
  | emr _ => cases h; rfl
  | emn _ => cases h; rfl
theorem getO_some {k : List (Option Nat)} {r a : Nat} (h : k.getD r none = some a) : (k.map oN)[r]? = some (iN a) := by
  rw [List.getD_eq_getElem?_getD] at h
  rw [List.getElem?_map]
  cases q : k[r]? with
  | none => rw [q] at h; cases h
  | some x => rw [q] at h; cases (show x = some a from h); rfl
theorem getO_none {k : List (Option Nat)} {r : Nat} (hr : r < k.length) (h : k.getD r none = none) : (k.map oN)[r]? = some .non := by
  rw [List.getD_eq_getElem?_getD] at h
  rw [List.getElem?_map, List.getElem?_eq_getElem hr]
  rw [List.getElem?_eq_getElem hr] at h
  rw [show k[r] = none from h]
  rfl
theorem getO_at {k : List (Option Nat)} {r : Nat} (hr : r < k.length) : (k.map oN)[r]? = some (oN (k.getD r none)) := by
  rw [List.getElem?_map, List.getElem?_eq_getElem hr, List.getD_eq_getElem?_getD, List.getElem?_eq_getElem hr]
  rfl
theorem sub_mod {a n w : Nat} (hn : n ≤ w) : ((a : Int) - n) % (w : Int) = (((a + w - n) % w : Nat) : Int) := by
  rw [Int.natCast_emod, show ((a + w - n : Nat) : Int) = ((a : Int) - n) + w by omega, Int.add_emod_right]
theorem flat4 (O : Dv) (a b c d : List Nat) : ((a.map iN).flatMap fun p => (b.map iN).flatMap fun q => (c.map iN).flatMap fun r => (d.map iN).flatMap fun s => [Dv.tup [O, .tup [p, q, r, s]]]) = (prodV a b c d).map fun u => Dv.tup [O, .tup (u.map iN)] := by
  unfold prodV
  simp only [List.flatMap_map, List.map_flatMap, List.map_cons, List.map_nil]
theorem chD (w : Nat) (o : Option Nat) : (if (oN o).isN then Dv.lst ((List.range w).map iN) else .lst [oN o]) = .lst ((chV w o).map iN) := by
  cases o <;> rfl
def undoD : Option (List (Option Nat)) → Dv → Mu → Prop
  | none, d, M => d = .non ∧ M = []
  | some k, d, M => ∃ q, d = .adr q ∧ M = [(q, .lst (k.map oN))]
def S_undo_actions : DS := fun ds M R => ∃ (acs : List Ac) (v : List Nat) (w : Nat), ds = [.tup (acs.map pA), .tup (v.map iN), iN w] ∧ M = [] ∧ 0 < w ∧ (∀ c ∈ acs, c.ok w) ∧ acs.length ≤ 6 ∧ v.length = 4 ∧ (∀ x ∈ v, x < w) ∧
  ∀ d N, undoD (undoV w acs.reverse (v.map some)) d N → R d N
def stS (s : List Cd × List Nat) : Dv := stD s.1 s.2
def S_list_before (a : Ads) : DS := fun ds M R => ∃ (c : Cd) (A B : List Cd) (v : List Nat) (w : Nat), ds = [pC a c, stD (A ++ c :: B) v, iN w] ∧ M = [] ∧ c.ok w ∧ 0 < w ∧ w ≤ 16 ∧ A.length + B.length ≤ 7 ∧ c.nm ∉ A.map (·.nm) ∧ v.length = 4 ∧ (∀ x ∈ v, x < w) ∧
  ∀ q, R (.adr q) [(q, .lst ((preV w c A B v).map stS))]
def S_predecessors (a : Ads) : DS := fun ds M R => ∃ (x : Str) (D : Dk) (s : List Cd × List Nat), ds = [.str x, stD s.1 s.2] ∧ M = [] ∧ TxOk x D ∧ BegOk D (some s) ∧ ∀ q, R (.adr q) [(q, .lst ((preL D s).map stS))]
end Dw
namespace Dw
open PySem L2 TL
theorem Cyc.mid {w : Nat} {s : List Cd × List Nat} {n j i : Nat} (h : Cyc w s n j) (hi : i ≤ j) : Cyc w (itS w i s) (n - i) (j - i) := by
  have hlt := h.lt
  refine ⟨by omega, ?_, fun a b hab hb e => ?_⟩
  · rw [← itS_add, ← itS_add, Nat.add_sub_cancel' (by omega), Nat.add_sub_cancel' hi]
    exact h.eq
  · rw [← itS_add, ← itS_add] at e
    exact h.df (i + a) (i + b) (by omega) (by omega) e
theorem Cyc.at {w : Nat} {s : List Cd × List Nat} {n j i : Nat} (h : Cyc w s n j) (hi : i < n) : ∃ n', Cyc w (itS w i s) n' (j - i) ∧ n' ≤ n ∧ (i ≤ j → n' = n - i) ∧ (j ≤ i → n' = n - j) := by
  rcases Nat.le_total i j with z | z
  · exact ⟨n - i, h.mid z, by omega, fun _ => rfl, fun q => by rw [Nat.le_antisymm z q]⟩
  · refine ⟨n - j, ?_, by omega, fun q => by rw [Nat.le_antisymm z q], fun _ => rfl⟩
    rw [show j - i = 0 by omega]
    exact h.from z
theorem Cyc.way {w : Nat} {s : List Cd × List Nat} {n j i : Nat} (h : Cyc w s n j) (hi : i < n) : Way w s (itS w i s) n (some i) := ⟨hi, rfl, fun k hk => h.df k i hk hi⟩
theorem Cyc.home {w : Nat} {s : List Cd × List Nat} {n j m : Nat} (h : Cyc w s n j) (hm : 0 < m) (e : itS w m s = s) : j = 0 := by
  rcases Nat.eq_zero_or_pos j with z | z
  · exact z
  · exfalso
    rcases Nat.lt_or_ge m n with q | q
    · exact h.df 0 m hm q e.symm
    · have hlt := h.lt
      have h1 := h.far (show j ≤ m by omega)
      rw [e] at h1
      exact h.df 0 _ (by omega) (h.idx m) h1
theorem Cyc.backWay {w : Nat} {s : List Cd × List Nat} {n j i n' : Nat} {o : Option Nat} (h : Cyc w s n j) (hi : i < n) (h' : Cyc w (itS w i s) n' (j - i)) (ho : Way w (itS w i s) s n' o) : o.isNone = (decide (0 < j) && decide (0 < i)) := by
  obtain ⟨n2, h2, h3, h4, h5⟩ := h.at hi
  obtain ⟨rfl, -⟩ := h'.uniq h2
  have hlt := h.lt
  have hl' := h'.lt
  cases o with
  | none =>
    have h0 : ∀ k < n', itS w k (itS w i s) ≠ s := ho
    have hi0 : 0 < i := by
      rcases Nat.eq_zero_or_pos i with z | z
      · subst z; exact absurd rfl (h0 0 (by omega))
      · exact z
    have hj0 : 0 < j := by
      rcases Nat.eq_zero_or_pos j with z | z
      · subst z
        have e : n' = n := h5 (by omega)
        refine absurd ?_ (h0 (n - i) (by omega))
        rw [← itS_add, Nat.add_sub_cancel' (by omega)]
        exact h.eq
      · exact z
    rw [decide_eq_true hj0, decide_eq_true hi0]
    rfl
  | some k =>
    obtain ⟨-, e, -⟩ := ho
    rw [← itS_add] at e
    rcases Nat.eq_zero_or_pos i with z | z
    · rw [decide_eq_false (show ¬ 0 < i by omega), Bool.and_false]
      rfl
    · have := h.home (by omega) e
      rw [decide_eq_false (show ¬ 0 < j by omega)]
      rfl
theorem oN_isN (o : Option Nat) : (oN o).isN = o.isNone := by cases o <;> rfl
theorem BegOk.of {D : Dk} {t : List Cd × List Nat} (h : StOk D t) (hw : ∀ x ∈ t.2, x < D.w) : BegOk D (some t) := fun o v e => by
  cases e
  exact ⟨h.pm, h.ln, hw⟩
theorem wayS {D : Dk} (hD : D.ok) {s t : List Cd × List Nat} (hs : StOk D s) (ht : StOk D t) {n : Nat} {o : Option Nat} (h : Way D.w s t n o) : (stD t.1 t.2 ∈ stL D.w s n ↔ o.isSome = true) ∧ ∀ m, o = some m → (stL D.w s n)[m]? = some (stD t.1 t.2) ∧ ∀ i < m, (stL D.w s n)[i]? ≠ some (stD t.1 t.2) := by
  have hm := mem_stL hD hs ht n
  cases o with
  | none => exact ⟨⟨fun z => by obtain ⟨i, hi, e⟩ := hm.mp z; exact absurd e (h i hi), fun z => nomatch z⟩, fun m e => nomatch e⟩
  | some k =>
    obtain ⟨h1, h2, h3⟩ := h
    refine ⟨⟨fun _ => rfl, fun _ => hm.mpr ⟨k, h1, h2⟩⟩, fun m e => ?_⟩
    cases e
    refine ⟨by rw [stL_at h1, h2], fun i hi e => ?_⟩
    rw [stL_at (by omega)] at e
    exact h3 i hi (stD_inj hD (hs.its i) ht (Option.some.inj e))
end Dw
namespace L2
open PySem PySem.Spec PyProof.Rows
def rCountD (K : PySem.W.Frag) : V → List V → Hp → VK → Prop := fun x xs H Q => ∃ a y d ds, x = .ref a ∧ xs = [y] ∧ Dp K H (.ref a) (.list ds) ∧ Dp K H y d ∧ SeqAt.shaped (.list ds) = true ∧ SeqAt.shaped d = true ∧ Q (.int (ds.countP fun z => z.eqv d : Nat)) H
theorem mt_countD {X : Cx} (hu : X.A.units + 65 < cLine) : MtR X "list.count" (rCountD X.K) := by
  intro pins s σ H x xs v us Q I rx rxs h
  obtain ⟨a, y, d, ds, rfl, rfl, hl, hy, sl, sd, q⟩ := h
  cases rx
  obtain ⟨b, rfl, ry⟩ := vals1 rxs
  cases hl with
  | @lst _ xs _ hs ha =>
  obtain ⟨its, rv, ⟨w, n, ho, hc, hdn, hdt⟩, hlen⟩ := I.list hs
  obtain ⟨cls, dd, data, sls⟩ := w
  dsimp only at hc hdn hdt
  subst hc hdn hdt
  obtain ⟨as, h4⟩ := Dp.readsAll I ds xs its ha rv
  obtain ⟨bs, r1⟩ := Dp.reads I d y b hy ry
  have sl2 := SeqAt.canLay_of_shaped sl
  have hxs : PyData.canLayAll0 ds = true := by simpa only [PyData.canLay0] using sl2
  have hmap := SeqAt.readsAll_map ds its as hxs h4
  have hcnt : its.countP (fun u => (SeqAt.readOf s.heap u).eqv d) = ds.countP fun z => z.eqv d := by
    rw [← hmap, List.countP_map]
    rfl
  have hroom : X.A.units + 1 + min (PyData.depthAll ds) d.depth < cLine := by
    unfold SeqAt.shaped at sd
    simp only [Bool.and_eq_true, decide_eq_true_eq] at sd
    have := Nat.min_le_right (PyData.depthAll ds) d.depth
    omega
  refine call_meets F.slot_list_count ⟨_, ho, rfl⟩ F.entry_list_count (F.args_list_count_2 _ _) (SeqAt.list_countAt a its.toArray n none sls b (fun u => (SeqAt.readOf s.heap u).eqv d)) ⟨ho, SeqAt.items_eqAt h4 r1 hxs (SeqAt.canLay_of_shaped sd) hroom, ?_⟩
  rw [show its.toArray.toList = its from rfl, hcnt]
  exact ⟨.int _, H, I.tok (s.toks + 1), ⟨s.toks, rfl⟩, q⟩
/-- sorted(xs) of data -/
def rSortedP (K : PySem.W.Frag) : List V → Hp → VK → Prop := fun vs H Q => ∃ (a : Addr) (xs : List V) (ds : List PyData), vs = [.ref a] ∧ SqL K H a xs ∧ DpAll K H xs ds ∧ W.AllAlike ds ∧ W.Sortable ds ∧ (∀ d ∈ ds, d.depth ≤ 60) ∧ xs.length ≤ 100000 ∧
  ∀ p, H p = none → Q (.ref p) (upd H p (.lst (((xs.zip ds).mergeSort (W.dataLe false Prod.snd)).map Prod.fst)))
theorem DpAll.zipped {X : Cx} {pins : List (Addr × Obj)} {σ : St} {H : Hp} {s : Shared} (I : Inv X pins σ H s) : ∀ {xs : List V} {ds : List PyData} {us : List Value}, DpAll X.K H xs ds → Vals xs us →
    W.EachIs (fun u (b : V × PyData) => RelV b.1 u) us (xs.zip ds) ∧ W.EachIs (fun u (b : V × PyData) => ∃ as, Reads s.heap u b.2 as) us (xs.zip ds) ∧ (xs.zip ds).map Prod.snd = ds ∧ xs.length = ds.length := by
  intro xs
  induction xs with
  | nil =>
    intro ds us h r
    cases h
    cases r
    exact ⟨.nil, .nil, rfl, rfl⟩
  | cons x xs ih =>
    intro ds us h r
    cases h with
    | cons h1 h2 =>
    cases r with
    | cons r1 r2 =>
      obtain ⟨i1, i2, i3, i4⟩ := ih h2 r2
      exact ⟨.cons r1 i1, .cons (Dp.reads I _ _ _ h1 r1) i2, congrArg (_ :: ·) i3, congrArg Nat.succ i4⟩
theorem vals_each : ∀ {us : List Value} {bs : List (V × PyData)}, W.EachIs (fun u (b : V × PyData) => RelV b.1 u) us bs → Vals (bs.map Prod.fst) us := by
  intro us bs h
  induction h with
  | nil => exact .nil
  | cons h1 _ ih => exact .cons h1 ih
theorem cr_sortedP {X : Cx} (hu : X.A.units + 65 < cLine) : CallR X (.builtin "sorted") (rSortedP X.K) := by
  intro pins s σ H vs us Q I r h
  obtain ⟨a, xs, ds, rfl, hs, hd, hal, hso, hdp, hz, q⟩ := h
  obtain ⟨its, rv, hl, _⟩ := I.list hs
  rw [Vals.ref1 r]
  obtain ⟨e1, e2, e3, e4⟩ := DpAll.zipped I hd rv
  have hlen : (xs.zip ds).length = xs.length := by rw [List.length_zip, e4, Nat.min_self]
  have hsl : xs.length ≤ sizeLine := by rw [sizeLine_eq]; omega
  refine W.sorted_data (β := V × PyData) (enc := Prod.snd) (R := fun u b => RelV b.1 u) hl.isList e1 e2 (by rw [e3]; exact hal) (by rw [e3]; exact hso) (by rw [hlen]; exact hsl) (fun b hb => ?_) fun out h1 h2 => ?_
  · have := hdp b.2 (by rw [← e3]; exact List.mem_map_of_mem hb)
    omega
  · obtain ⟨ep, he'⟩ := PyProof.Rows.sortedAll_at s.heap its out.toArray
    have hlen2 : (((xs.zip ds).mergeSort (W.dataLe false Prod.snd)).map Prod.fst).length ≤ sizeLine := by rw [List.length_map, List.length_mergeSort, hlen]; exact hsl
    exact ⟨.ref _, upd H (s.heap.objs.size + 1) (.lst (((xs.zip ds).mergeSort (W.dataLe false Prod.snd)).map Prod.fst)), I.laid (t' := s.toks) (fun _ _ => PyProof.Rows.sortedAll_old) (Nat.le_succ _) ⟨hlen2, out, ep, vals_each h2, he'⟩, rfl, q _ (I.hok.fresh (Nat.le_succ _))⟩
end L2
namespace Dw
open PySem L2 TL
section
abbrev Tk1 := Int ⊕ List Nat
theorem lex_pre (O : PyProof.Rows.KeyOrd) : ∀ (P U V : List O.α), PyProof.Rows.lexLt O (P ++ U) (P ++ V) = PyProof.Rows.lexLt O U V
  | [], _, _ => rfl
  | x :: P, U, V => by
    rw [List.cons_append, List.cons_append]
    show (O.blt x x || !O.blt x x && PyProof.Rows.lexLt O (P ++ U) (P ++ V)) = _
    rw [O.irrefl, lex_pre O P U V]
    rfl
/-- a < c at the first place where they differ -/
def Lxn (a c : List Nat) : Prop := ∃ p x r y s, a = p ++ x :: r ∧ c = p ++ y :: s ∧ x < y
theorem Lxn.ne {a : List Nat} (h : Lxn a a) : False := by
  obtain ⟨p, x, r, y, s, h1, h2, h3⟩ := h
  rw [h1] at h2
  have := (List.append_cancel_left h2)
  cases this
  omega
theorem Lxn.hd {x y : Nat} {r s : List Nat} (h : x < y) : Lxn (x :: r) (y :: s) := ⟨[], x, r, y, s, rfl, rfl, h⟩
theorem Lxn.tl {x : Nat} {r s : List Nat} (h : Lxn r s) : Lxn (x :: r) (x :: s) := by
  obtain ⟨p, a, b, c, d, h1, h2, h3⟩ := h
  exact ⟨x :: p, a, b, c, d, by rw [h1]; rfl, by rw [h2]; rfl, h3⟩
def tk (a : List Nat) : List Tk1 := a.flatMap fun (i : Nat) => [.inl 1, .inl (i : Int)]
theorem tks_all (a : List Nat) : W.keyToksAll (toPyL (a.map iN)) = tk a ++ [.inl 0] := by
  induction a with
  | nil => simp [toPyL, W.keyToksAll, tk]
  | cons x a ih =>
    simp only [List.map_cons, toPyL, W.keyToksAll, ih, toPy, W.keyToks, tk, List.flatMap_cons]
    rfl
def keyD (a b : List Nat) : Dv := .tup [.tup (a.map iN), .tup (b.map iN)]
theorem tks_key (a b : List Nat) : W.keyToks (toPy (keyD a b)) = .inl 1 :: (tk a ++ (.inl 0 :: .inl 1 :: (tk b ++ [.inl 0, .inl 0]))) := by
  unfold keyD
  simp only [toPy, toPyL, W.keyToks, W.keyToksAll, tks_all]
  simp
theorem lex_tk {a c : List Nat} (h : Lxn a c) (U V : List Tk1) : PyProof.Rows.lexLt PyProof.Rows.itemOrd (tk c ++ U) (tk a ++ V) = false := by
  obtain ⟨p, x, r, y, s, rfl, rfl, hxy⟩ := h
  unfold tk
  rw [List.flatMap_append, List.flatMap_append, List.append_assoc, List.append_assoc, lex_pre]
  show PyProof.Rows.lexLt PyProof.Rows.itemOrd (.inl 1 :: .inl (y : Int) :: _) (.inl 1 :: .inl (x : Int) :: _) = false
  show (decide ((1 : Int) < 1) || !decide ((1 : Int) < 1) && (decide ((y : Int) < x) || !decide ((x : Int) < y) && _)) = false
  rw [decide_eq_false (show ¬ ((y : Nat) : Int) < (x : Nat) by omega), decide_eq_true (show ((x : Nat) : Int) < (y : Nat) by omega)]
  rfl
/-- the order of keys -/
def Kl (p q : List Nat × List Nat) : Prop := Lxn p.1 q.1 ∨ p.1 = q.1 ∧ Lxn p.2 q.2
theorem Kl.ne {p : List Nat × List Nat} (h : Kl p p) : False := h.elim Lxn.ne fun h => Lxn.ne h.2
theorem kl_le {p q : List Nat × List Nat} (h : Kl p q) : W.dataLe false toPy (keyD p.1 p.2) (keyD q.1 q.2) = true := by
  show (!PyProof.Rows.lexLt PyProof.Rows.itemOrd (W.keyToks (toPy (keyD q.1 q.2))) (W.keyToks (toPy (keyD p.1 p.2)))) = true
  rw [tks_key, tks_key]
  have h1 := lex_pre PyProof.Rows.itemOrd
  rcases h with h | ⟨e, h⟩
  · have e1 := h1 [.inl 1] (tk q.1 ++ (.inl 0 :: .inl 1 :: (tk q.2 ++ [.inl 0, .inl 0]))) (tk p.1 ++ (.inl 0 :: .inl 1 :: (tk p.2 ++ [.inl 0, .inl 0])))
    rw [lex_tk h] at e1
    exact congrArg Bool.not e1
  · have e1 := h1 (.inl 1 :: (tk p.1 ++ [.inl 0, .inl 1])) (tk q.2 ++ [.inl 0, .inl 0]) (tk p.2 ++ [.inl 0, .inl 0])
    rw [lex_tk h] at e1
    simp only [List.cons_append, List.append_assoc, List.nil_append] at e1
    rw [← e]
    exact congrArg Bool.not e1
theorem chV_lt (w : Nat) (o : Option Nat) : (chV w o).Pairwise (· < ·) := by
  cases o with
  | none => exact List.pairwise_lt_range
  | some x => exact List.pairwise_singleton ..
theorem prodV_lt {a b c d : List Nat} (ha : a.Pairwise (· < ·)) (hb : b.Pairwise (· < ·)) (hc : c.Pairwise (· < ·)) (hd : d.Pairwise (· < ·)) : (prodV a b c d).Pairwise Lxn := by
  unfold prodV
  refine List.pairwise_flatMap.mpr ⟨fun p _ => List.pairwise_flatMap.mpr ⟨fun q _ => List.pairwise_flatMap.mpr ⟨fun r _ => List.pairwise_flatMap.mpr ⟨fun s _ => List.pairwise_singleton .., ?_⟩, ?_⟩, ?_⟩, ?_⟩
  · refine hd.imp fun h x hx y hy => ?_
    rw [List.mem_singleton.mp hx, List.mem_singleton.mp hy]
    exact (Lxn.hd h).tl.tl.tl
  · refine hc.imp fun h x hx y hy => ?_
    obtain ⟨_, _, hx⟩ := List.mem_flatMap.mp hx
    obtain ⟨_, _, hy⟩ := List.mem_flatMap.mp hy
    rw [List.mem_singleton.mp hx, List.mem_singleton.mp hy]
    exact (Lxn.hd h).tl.tl
  · refine hb.imp fun h x hx y hy => ?_
    obtain ⟨_, _, hx⟩ := List.mem_flatMap.mp hx
    obtain ⟨_, _, hx⟩ := List.mem_flatMap.mp hx
    obtain ⟨_, _, hy⟩ := List.mem_flatMap.mp hy
    obtain ⟨_, _, hy⟩ := List.mem_flatMap.mp hy
    rw [List.mem_singleton.mp hx, List.mem_singleton.mp hy]
    exact (Lxn.hd h).tl
  · refine ha.imp fun h x hx y hy => ?_
    obtain ⟨_, _, hx⟩ := List.mem_flatMap.mp hx
    obtain ⟨_, _, hx⟩ := List.mem_flatMap.mp hx
    obtain ⟨_, _, hx⟩ := List.mem_flatMap.mp hx
    obtain ⟨_, _, hy⟩ := List.mem_flatMap.mp hy
    obtain ⟨_, _, hy⟩ := List.mem_flatMap.mp hy
    obtain ⟨_, _, hy⟩ := List.mem_flatMap.mp hy
    rw [List.mem_singleton.mp hx, List.mem_singleton.mp hy]
    exact Lxn.hd h
/-- the place of a card in the deck -/
def ixC (D : Dk) (c : Cd) : Nat := (D.cs.map (·.nm)).idxOf c.nm
theorem ixC_at {D : Dk} (hD : D.ok) {i : Nat} (h : i < D.cs.length) : ixC D D.cs[i] = i := by
  have hnd := hD.nd
  unfold ixC
  have := List.Nodup.idxOf_getElem hnd i (by rw [List.length_map]; exact h)
  rwa [List.getElem_map] at this
theorem ixC_lt {D : Dk} (hD : D.ok) : D.cs.Pairwise fun c d => ixC D c < ixC D d := by
  rw [List.pairwise_iff_getElem]
  intro i j hi hj hij
  rw [ixC_at hD hi, ixC_at hD hj]
  exact hij
def keyS (D : Dk) (t : List Cd × List Nat) : List Nat × List Nat := (t.1.map (ixC D), t.2)
theorem preL_lt {D : Dk} (hD : D.ok) (s : List Cd × List Nat) : (preL D s).Pairwise fun x y => Kl (keyS D x) (keyS D y) := by
  unfold preL
  have hv : ∀ {c : Cd} {A B : List Cd} {v : List Nat} {x : List Cd × List Nat}, x ∈ preV D.w c A B v → ∃ u, x = (c :: (A ++ B), u) := fun {c A B v x} h => by
    unfold preV at h
    split at h
    · split at h
      · cases h
      · obtain ⟨u, _, rfl⟩ := List.mem_map.mp h
        exact ⟨u, rfl⟩
    · cases h
  refine List.pairwise_flatMap.mpr ⟨fun c _ => ?_, (ixC_lt hD).imp fun h x hx y hy => ?_⟩
  · unfold preV
    split
    · split
      · exact List.Pairwise.nil
      · rw [List.pairwise_map]
        refine (prodV_lt (chV_lt ..) (chV_lt ..) (chV_lt ..) (chV_lt ..)).imp fun h => .inr ⟨rfl, h⟩
    · exact List.Pairwise.nil
  · obtain ⟨u, rfl⟩ := hv hx
    obtain ⟨u', rfl⟩ := hv hy
    exact .inl (Lxn.hd h)
theorem preL_nodup {D : Dk} (hD : D.ok) (s : List Cd × List Nat) : (preL D s).Nodup := (preL_lt hD s).imp fun h e => by
  subst e
  exact h.ne
end
end Dw
namespace Dw
open PySem L2 TL
section
variable {K : PySem.W.Frag} {F : List Addr} {M : Mu} {Γ : Ga} {x z d : Dv}
theorem count_one {n : Nat} (hx : Ps n x) : ∀ {ds : List Dv}, (∀ e ∈ ds, Ps n e) → ds.Nodup → (ds.countP fun e => PyData.eqv (toPy e) (toPy x)) ≤ 1 ∧ (x ∉ ds → (ds.countP fun e => PyData.eqv (toPy e) (toPy x)) = 0)
  | [], _, _ => ⟨Nat.zero_le _, fun _ => rfl⟩
  | e :: ds, hs, hnd => by
    obtain ⟨h1, h2⟩ := List.nodup_cons.mp hnd
    obtain ⟨i1, i2⟩ := count_one hx (fun e he => hs e (List.mem_cons_of_mem _ he)) h2
    have hq := eqv_iff (hs e (List.mem_cons_self ..)) hx
    rw [List.countP_cons]
    by_cases he : e = x
    · subst he
      rw [i2 h1]
      refine ⟨by split <;> omega, fun z => absurd (List.mem_cons_self ..) z⟩
    · have hf : PyData.eqv (toPy e) (toPy x) = false := by
        cases q : PyData.eqv (toPy e) (toPy x) with
        | false => rfl
        | true => exact absurd (hq.mp q) he
      rw [hf]
      exact ⟨i1, fun z => i2 fun w => z (List.mem_cons_of_mem _ w)⟩
theorem md_count1 {n : Nat} (hx : Ps n x) {ds : List Dv} (hs : ∀ e ∈ ds, Ps n e) (hn : n + 1 ≤ 64) : MtD K F M (rCountD K) (.lst ds) [x] (iN (ds.countP fun e => PyData.eqv (toPy e) (toPy x))) := fun v vs H m r1 r2 Q q => by
  have pl : Pl (n + 1) (.lst ds) := pl_list fun e he => (hs e he).pl
  cases r2 with
  | cons r2 r3 =>
  cases r3
  have e := rp_dp pl (r1.mono (hid_sub _ _))
  have sh := pl_shaped pl hn
  simp only [toPy] at e sh
  cases r1 with
  | lst h1 rl =>
  refine ⟨_, _, _, toPyL ds, rfl, rfl, e, rp_dp hx.pl (r2.mono (hid_sub _ _)), sh, pl_shaped hx.pl (by omega), ?_⟩
  rw [toPyL_map, List.countP_map]
  exact q _ H (Same.refl H) (.int _)
/-- sorted of what is in order -/
theorem cd_sortedP {n : Nat} {ds : List Dv} (hp : ∀ e ∈ ds, Pl n e) (hn : n ≤ 60) (ha : W.AllAlike (ds.map toPy)) (hs : W.Sortable (ds.map toPy)) (hz : ds.length ≤ 100000) (ho : ds.Pairwise fun a b => W.dataLe false toPy a b = true) : CaD K F M (rSortedP K) [.lst ds] (.lst ds) := fun vs H m r Q q => by
  cases r with
  | cons r1 r2 =>
  cases r2
  cases r1 with
  | @lst a xs _ h1 rl =>
  have hd := rpL_dp (n := n) hp (RpL.mono (hid_sub _ _) rl)
  have hl := rl.len
  refine ⟨a, xs, toPyL ds, rfl, .inl (.inl (hid_some h1).2), hd, by rw [toPyL_map]; exact ha, by rw [toPyL_map]; exact hs, fun d hd => ?_, by omega, fun p hpn => ?_⟩
  · rw [toPyL_map] at hd
    obtain ⟨e, he, rfl⟩ := List.mem_map.mp hd
    exact Nat.le_trans (pl_lay n e (hp e he)).2 hn
  · have hz1 : (xs.zip (toPyL ds)).map Prod.snd = ds.map toPy := by
      rw [toPyL_map, List.map_snd_zip (by rw [List.length_map]; omega)]
    have hz2 : (xs.zip (toPyL ds)).map Prod.fst = xs := by
      rw [toPyL_map, List.map_fst_zip (by rw [List.length_map]; omega)]
    have hso : (xs.zip (toPyL ds)).Pairwise fun a b => W.dataLe false Prod.snd a b = true := by
      have h3 : (ds.map toPy).Pairwise fun a b => W.dataLe false id a b = true := List.pairwise_map.mpr ho
      rw [← hz1, List.pairwise_map] at h3
      exact h3
    rw [List.mergeSort_of_pairwise hso, hz2]
    exact q _ _ (same_new hpn) (m.newL hpn rl)
end
theorem alike_all : ∀ {a b : List Nat}, a.length = b.length → W.alikeAll (toPyL (a.map iN)) (toPyL (b.map iN)) = true
  | [], [], _ => by simp [toPyL, W.alikeAll]
  | x :: a, y :: b, h => by
    have := alike_all (a := a) (b := b) (Nat.succ.inj h)
    simp only [List.map_cons, toPyL, toPy, W.alikeAll, W.alike, this]
    rfl
theorem alike_key {a b c d : List Nat} (h1 : a.length = c.length) (h2 : b.length = d.length) : W.alike (toPy (keyD a b)) (toPy (keyD c d)) = true := by
  unfold keyD
  simp only [toPy, toPyL, W.alike, W.alikeAll, alike_all h1, alike_all h2]
  rfl
theorem pl_key2 (a b : List Nat) : Pl 2 (keyD a b) := by
  intro e he
  simp only [List.mem_cons, List.not_mem_nil, or_false] at he
  rcases he with rfl | rfl <;> (intro e he; obtain ⟨i, _, rfl⟩ := List.mem_map.mp he; trivial)
theorem cutD_sub {ds : List Dv} {lo hi : Option Int} : ∀ e ∈ cutD ds lo hi, e ∈ ds := fun e he => by
  unfold cutD at he
  exact List.mem_of_mem_drop (List.mem_of_mem_take he)
def dueV (n c k j : Nat) : Option Nat := if k ≤ j then some (j - k) else if c ≤ j then some (j + (n - c) - k) else none
theorem Cyc.due {w : Nat} {s : List Cd × List Nat} {n c k j n' : Nat} (h : Cyc w s n c) (hk : k < n) (hj : j < n) (h' : Cyc w (itS w k s) n' (c - k)) : Way w (itS w k s) (itS w j s) n' (dueV n c k j) := by
  obtain ⟨n2, h2, h3, h4, h5⟩ := h.at hk
  obtain ⟨rfl, -⟩ := h'.uniq h2
  have hlt := h.lt
  have key : ∀ i, i < n' → itS w (k + i) s = itS w j s → Way w (itS w k s) (itS w j s) n' (some i) := fun i hi e => by
    have := h'.way hi
    rwa [← itS_add, e] at this
  unfold dueV
  by_cases q : k ≤ j
  · rw [if_pos q]
    refine key _ ?_ (by rw [Nat.add_sub_cancel' q])
    rcases Nat.le_total k c with z | z
    · rw [h4 z]; omega
    · rw [h5 z]; omega
  · rw [if_neg q]
    by_cases r : c ≤ j
    · rw [if_pos r]
      refine key _ (by rw [h5 (by omega)]; omega) ?_
      have := h.back r 1
      rw [Nat.one_mul] at this
      rw [← this]
      congr 1
      omega
    · rw [if_neg r]
      intro i hi e
      rw [← itS_add] at e
      rcases Nat.lt_or_ge (k + i) n with z | z
      · exact h.df j (k + i) (by omega) z e.symm
      · have h1 := h.far (show c ≤ k + i by omega)
        rw [e] at h1
        exact h.df j _ (by have := h.idx (k + i); omega) (h.idx (k + i)) h1
end Dw
namespace Dw
open PySem L2 TL
theorem mt_countP {K : PySem.W.Frag} {X : Cx} (hK : X.K = K) (hu : X.A.units + 65 < cLine) : MtR X "list.count" (rCountD K) := hK ▸ mt_countD hu
theorem call_sortedP {K : PySem.W.Frag} {X : Cx} (hK : X.K = K) (hu : X.A.units + 65 < cLine) : CallR X (.builtin "sorted") (rSortedP K) := hK ▸ cr_sortedP hu
theorem pi_tupK {K : PySem.W.Frag} {X : Cx} {tg l : PySem.Expr} {tl : TE} (hK : X.K = K) (h : PE X l tl) : PI X tg l (iTup K tl) := hK ▸ pi_tup h
theorem pi_listK {K : PySem.W.Frag} {X : Cx} {tg l : PySem.Expr} {tl : TE} (hK : X.K = K) (h : PE X l tl) : PI X tg l (iList K tl) := hK ▸ pi_list h
theorem pe_bmK {K : PySem.W.Frag} {X : Cx} {o e : PySem.Expr} {es : List PySem.Expr} {to : TE} {t : TA} {name : Str} {apos cpos : Pos} {T id : String} {r : V → List V → Hp → VK → Prop} (hK : X.K = K) (pa : PlainAttrs T) (slot : Slot T name id)
    (hty : typeOf (.builtin id) = pure (.type "method_descriptor")) (hm : MtR X id r) (ho : PE X o to) (ha : PA X (e :: es) t)
    (hbase : attributeBase o name X.env (eval o X.env) = eval o X.env := by rfl)
    (hfew : ((((backTo cpos (starEach (e :: es) X.env)).all fun x => !x.fst) && (backToKw cpos (keywordEach [] X.env)).all fun x => x.fst.isSome) && decide (((e :: es).length + ([] : List (Option Str × PySem.Expr)).length + if ([] : List (Option Str × PySem.Expr)).isEmpty = true then 0 else 1) < 30)) = true := by rfl)
    (hline : (apos.endLine == cpos.line) = true := by rfl)
    (hs : starEach (e :: es) X.env = (false, eval e X.env) :: starEach es X.env := by rfl)
    (hplain : ((backTo cpos (starEach es X.env)).any fun x => x.fst) = false := by rfl) :
    PE X (.Call (.Attribute o name apos) (e :: es) [] cpos) (tBM K T r to t) := hK ▸ pe_bm pa slot hty hm ho ha hbase hfew hline hs hplain
section
variable {K : PySem.W.Frag} {Pm F : List Addr} {M : Mu} {Γ : Ga} {te tl' : TE} {x y z d : Dv} {R : Dv → Mu → Prop} {H0 H H' : Hp} {σ : L2.St}
theorem filt0 (ds : List Dv) : Dv.lst ((ds.filter fun _ => false).map id) = .lst [] := by
  have : ∀ ds : List Dv, ds.filter (fun _ => false) = [] := fun ds => List.filter_eq_nil_iff.mpr fun _ _ h => by cases h
  rw [this]
  rfl
theorem wipe_set {vs : List Nat} {j : Nat} {τ : L2.St} {v : Option V} (hj : j ∈ vs) : L2.wipe (τ.set j v) vs = L2.wipe τ vs := by
  refine List.ext_getElem? fun i => ?_
  by_cases hi : i ∈ vs
  · rw [wipe_in hi, wipe_in hi, List.length_set]
  · rw [wipe_out hi, wipe_out hi, List.getElem?_set_ne (fun e : j = i => hi (by rw [← e]; exact hj))]
theorem wipe_wipe {vs : List Nat} {τ : L2.St} : L2.wipe (L2.wipe τ vs) vs = L2.wipe τ vs := by
  refine List.ext_getElem? fun i => ?_
  by_cases hi : i ∈ vs
  · rw [wipe_in hi, wipe_in hi, wipe_length]
  · rw [wipe_out hi, wipe_out hi]
theorem en_lcG2 {i1 i2 : Nat} {ds rs : List Dv} (h : EvD K F M tl' Γ (.lst ds)) (hv : ∀ i ∈ [i1, i2], ∀ d, Γ[i]? ≠ some (some d)) (hz : ds.length ≤ 60000) (hlen : rs.length = ds.length)
    (hg : ∀ (i : Nat) e r, ds[i]? = some e → rs[i]? = some r → ∃ d1 d2, e = .tup [d1, d2] ∧ ∀ Dl, EvD K (Dl :: F) M te ((Γ.set i1 (some d1)).set i2 (some d2)) r) :
    EvN K F M (tLc (iList K tl') (gTup K 2 (gCons (gName i1) (gCons (gName i2) gNil))) tYes te [i1, i2]) Γ rs := fun σ H m s Q q => h σ H m s _ fun v H1 e1 r1 => by
  cases r1 with
  | @lst a xs _ hq rx =>
  have m1 := m.mono e1
  have s1 := s.mono e1
  refine ⟨a, rfl, ⟨xs, .inl (.inl (hid_some hq).2)⟩, fun Dl hD => ?_⟩
  refine lc_list (xs := xs) (fun i => Lcs K F M H1 Dl (rs.take i)) ⟨same_new hD, [], upd_same, .nil⟩ (fun i H' _ c => c.e.seq (.inl (.inl (hid_some hq).2))) (fun i x H' hx c => ?_) fun H' c => ?_
  · obtain ⟨e, he, re⟩ := rx.getV hx
    have hi := (List.getElem?_eq_some_iff.mp he).1
    have hr : rs[i]? = some rs[i] := by simp [hlen, hi]
    obtain ⟨d1, d2, rfl, hb⟩ := hg i e _ he hr
    have hk := c.keep hD
    have re2 := re.mono hk
    obtain ⟨b, ys, rfl, hs, ry⟩ : ∃ b ys, x = .ref b ∧ SqT K (hid (ads M ++ Dl :: F) H') b ys ∧ RpL K (hid (ads M ++ Dl :: F) H') ys [d1, d2] := by
      cases re2 with
      | tup h r => exact ⟨_, _, rfl, h.1, r⟩
    cases ry with
    | cons r1 ry =>
    cases ry with
    | cons r2 ry =>
    cases ry
    refine ⟨b, _, rfl, sqT_hid hs, rfl, _, _, rfl, _, _, rfl, rfl, ?_, ?_⟩
    · rw [wipe_set (by simp), wipe_set (by simp), wipe_wipe]
    · have s3 := (((s1.keep hk).wipe hv).set i1 r1).set i2 r2
      refine hb Dl _ H' (c.ms hD m1) s3 _ fun yv H4 e4 r4 => ?_
      obtain ⟨zs, hz1, hz2, c'⟩ := c.add hD e4 (by rw [List.length_take]; omega) r4
      refine ⟨zs, hz1, hz2, ?_⟩
      rw [List.take_succ, hr]
      exact c'
  · rw [rx.len, ← hlen, List.take_length] at c
    obtain ⟨ys, hy, ry⟩ := c.l
    exact q Dl H' ys (none_back e1 hD) (e1.trans c.e) hy ry
end
end Dw
namespace Dw
open PySem L2 TL
theorem lex_tk2 {a c : List Nat} (h : Lxn a c) (U V : List Tk1) : PyProof.Rows.lexLt PyProof.Rows.itemOrd (tk a ++ U) (tk c ++ V) = true := by
  obtain ⟨p, x, r, y, s, rfl, rfl, hxy⟩ := h
  unfold tk
  rw [List.flatMap_append, List.flatMap_append, List.append_assoc, List.append_assoc, lex_pre]
  show (decide ((1 : Int) < 1) || !decide ((1 : Int) < 1) && (decide ((x : Int) < y) || !decide ((y : Int) < x) && _)) = true
  rw [decide_eq_true (show ((x : Nat) : Int) < (y : Nat) by omega)]
  rfl
def tkK (p : List Nat × List Nat) (X : List Tk1) : List Tk1 := .inl 1 :: (tk p.1 ++ (.inl 0 :: .inl 1 :: (tk p.2 ++ X)))
theorem tkK_lt {p q : List Nat × List Nat} (h : Kl p q) (X Y : List Tk1) : PyProof.Rows.lexLt PyProof.Rows.itemOrd (tkK q Y) (tkK p X) = false ∧ PyProof.Rows.lexLt PyProof.Rows.itemOrd (tkK p X) (tkK q Y) = true := by
  have h1 := lex_pre PyProof.Rows.itemOrd
  unfold tkK
  rcases h with h | ⟨e, h⟩
  · have e1 := h1 [.inl 1] (tk q.1 ++ (.inl 0 :: .inl 1 :: (tk q.2 ++ Y))) (tk p.1 ++ (.inl 0 :: .inl 1 :: (tk p.2 ++ X)))
    have e2 := h1 [.inl 1] (tk p.1 ++ (.inl 0 :: .inl 1 :: (tk p.2 ++ X))) (tk q.1 ++ (.inl 0 :: .inl 1 :: (tk q.2 ++ Y)))
    rw [lex_tk h] at e1
    rw [lex_tk2 h] at e2
    exact ⟨e1, e2⟩
  · have e1 := h1 (.inl 1 :: (tk p.1 ++ [.inl 0, .inl 1])) (tk q.2 ++ Y) (tk p.2 ++ X)
    have e2 := h1 (.inl 1 :: (tk p.1 ++ [.inl 0, .inl 1])) (tk p.2 ++ X) (tk q.2 ++ Y)
    rw [lex_tk h] at e1
    rw [lex_tk2 h] at e2
    simp only [List.cons_append, List.append_assoc, List.nil_append] at e1 e2
    rw [← e]
    exact ⟨e1, e2⟩
/-- a key and what hangs on it -/
def triD (p : List Nat × List Nat) (z : Dv) : Dv := .tup [.lst (p.1.map iN), .tup (p.2.map iN), z]
theorem tks_tri (p : List Nat × List Nat) (z : Dv) : W.keyToks (toPy (triD p z)) = tkK p (.inl 0 :: .inl 1 :: (W.keyToks (toPy z) ++ [.inl 0])) := by
  unfold triD tkK
  simp only [toPy, toPyL, W.keyToks, W.keyToksAll, tks_all]
  simp
theorem tri_le {p q : List Nat × List Nat} (h : Kl p q) (y z : Dv) : W.dataLe false toPy (triD p y) (triD q z) = true ∧ W.dataLe false toPy (triD q z) (triD p y) = false := by
  have := tkK_lt h (.inl 0 :: .inl 1 :: (W.keyToks (toPy y) ++ [.inl 0])) (.inl 0 :: .inl 1 :: (W.keyToks (toPy z) ++ [.inl 0]))
  rw [← tks_tri, ← tks_tri] at this
  exact ⟨congrArg Bool.not this.1, congrArg Bool.not this.2⟩
section
variable {K : PySem.W.Frag} {F : List Addr} {M : Mu} {Γ : Ga} {x z d : Dv}
/-- sorted of what can be put in one order -/
theorem cd_sortedQ {n : Nat} {ds es : List Dv} (hp : ∀ e ∈ ds, Pl n e) (hn : n ≤ 60) (ha : W.AllAlike (ds.map toPy)) (hs : W.Sortable (ds.map toPy)) (hz : ds.length ≤ 100000)
    (hpm : es.Perm ds) (ho : es.Pairwise fun a b => W.dataLe false toPy a b = true) (hanti : ∀ a ∈ ds, ∀ b ∈ ds, W.dataLe false toPy a b = true → W.dataLe false toPy b a = true → a = b) : CaD K F M (rSortedP K) [.lst ds] (.lst es) := fun vs H m r Q q => by
  cases r with
  | cons r1 r2 =>
  cases r2
  cases r1 with
  | @lst a xs _ h1 rl =>
  have hd := rpL_dp (n := n) hp (RpL.mono (hid_sub _ _) rl)
  have hl := rl.len
  have htot : W.TotalLe (W.dataLe (β := Dv) false toPy) := W.sortLe_total ..
  have hso : ds.mergeSort (W.dataLe false toPy) = es := by
    refine List.Perm.eq_of_pairwise (le := fun a b => W.dataLe false toPy a b = true) (fun a b h1 h2 => hanti a (List.mem_mergeSort.mp h1) b (hpm.mem_iff.mp h2)) (List.pairwise_mergeSort htot.trans (fun a b => ?_) ds) ho ((List.mergeSort_perm ..).trans hpm.symm)
    rcases htot.total a b with h | h <;> rw [h]
    · rfl
    · exact Bool.or_true _
  have e1 : (xs.zip (toPyL ds)).mergeSort (W.dataLe false Prod.snd) = ((xs.zip ds).mergeSort fun a b => W.dataLe false toPy a.2 b.2).map fun p => (p.1, toPy p.2) := by
    have := W.sort_maps (r := fun a b : V × Dv => W.dataLe false toPy a.2 b.2) (s := W.dataLe (β := V × PyData) false Prod.snd) (fun p : V × Dv => (p.1, toPy p.2)) (l := xs.zip ds) (fun a _ b _ => rfl)
    rw [this, toPyL_map, List.zip_map_right]
    rfl
  have e2 : ((xs.zip ds).mergeSort fun a b => W.dataLe false toPy a.2 b.2).map Prod.snd = es := by
    rw [W.sort_maps (s := W.dataLe false toPy) Prod.snd (fun a _ b _ => rfl), List.map_snd_zip (by omega), hso]
  have hall : ∀ {xs : List V} {ds : List Dv} {H : Hp}, RpL K H xs ds → ∀ p ∈ xs.zip ds, Rp K H p.1 p.2 := by
    intro xs
    induction xs with
    | nil => intro ds H h p hp; cases hp
    | cons x xs ih =>
      intro ds H h p hp
      cases h with
      | cons h1 h2 =>
        rcases List.mem_cons.mp hp with rfl | hp
        · exact h1
        · exact ih h2 p hp
  have hre : ∀ l : List (V × Dv), (∀ p ∈ l, Rp K (hid (ads M ++ F) H) p.1 p.2) → RpL K (hid (ads M ++ F) H) (l.map Prod.fst) (l.map Prod.snd) := fun l => by
    induction l with
    | nil => intro _; exact .nil
    | cons p l ih => intro h; exact .cons (h p (List.mem_cons_self ..)) (ih fun q hq => h q (List.mem_cons_of_mem _ hq))
  refine ⟨a, xs, toPyL ds, rfl, .inl (.inl (hid_some h1).2), hd, by rw [toPyL_map]; exact ha, by rw [toPyL_map]; exact hs, fun d hd => ?_, by omega, fun p hpn => ?_⟩
  · rw [toPyL_map] at hd
    obtain ⟨e, he, rfl⟩ := List.mem_map.mp hd
    exact Nat.le_trans (pl_lay n e (hp e he)).2 hn
  · have h9 := hre ((xs.zip ds).mergeSort fun a b => W.dataLe false toPy a.2 b.2) fun p hp => hall rl p (List.mem_mergeSort.mp hp)
    rw [e2] at h9
    rw [e1, List.map_map]
    exact q _ _ (same_new hpn) (m.newL hpn h9)
end
end Dw
namespace Dw
open PySem L2 TL
section
variable {K : PySem.W.Frag} {Pm F : List Addr} {M : Mu} {Γ : Ga} {te tl' : TE} {x y z d : Dv} {R : Dv → Mu → Prop} {H0 H H' : Hp} {σ : L2.St}
theorem en_lcG3 {i1 i2 i3 : Nat} {ds rs : List Dv} (h : EvD K F M tl' Γ (.lst ds)) (hv : ∀ i ∈ [i1, i2, i3], ∀ d, Γ[i]? ≠ some (some d)) (hz : ds.length ≤ 60000) (hlen : rs.length = ds.length)
    (hg : ∀ (i : Nat) e r, ds[i]? = some e → rs[i]? = some r → ∃ d1 d2 d3, e = .tup [d1, d2, d3] ∧ ∀ Dl, EvD K (Dl :: F) M te (((Γ.set i1 (some d1)).set i2 (some d2)).set i3 (some d3)) r) :
    EvN K F M (tLc (iList K tl') (gTup K 3 (gCons (gName i1) (gCons (gName i2) (gCons (gName i3) gNil)))) tYes te [i1, i2, i3]) Γ rs := fun σ H m s Q q => h σ H m s _ fun v H1 e1 r1 => by
  cases r1 with
  | @lst a xs _ hq rx =>
  have m1 := m.mono e1
  have s1 := s.mono e1
  refine ⟨a, rfl, ⟨xs, .inl (.inl (hid_some hq).2)⟩, fun Dl hD => ?_⟩
  refine lc_list (xs := xs) (fun i => Lcs K F M H1 Dl (rs.take i)) ⟨same_new hD, [], upd_same, .nil⟩ (fun i H' _ c => c.e.seq (.inl (.inl (hid_some hq).2))) (fun i x H' hx c => ?_) fun H' c => ?_
  · obtain ⟨e, he, re⟩ := rx.getV hx
    have hi := (List.getElem?_eq_some_iff.mp he).1
    have hr : rs[i]? = some rs[i] := by simp [hlen, hi]
    obtain ⟨d1, d2, d3, rfl, hb⟩ := hg i e _ he hr
    have hk := c.keep hD
    have re2 := re.mono hk
    obtain ⟨b, ys, rfl, hs, ry⟩ : ∃ b ys, x = .ref b ∧ SqT K (hid (ads M ++ Dl :: F) H') b ys ∧ RpL K (hid (ads M ++ Dl :: F) H') ys [d1, d2, d3] := by
      cases re2 with
      | tup h r => exact ⟨_, _, rfl, h.1, r⟩
    cases ry with
    | cons r1 ry =>
    cases ry with
    | cons r2 ry =>
    cases ry with
    | cons r3 ry =>
    cases ry
    refine ⟨b, _, rfl, sqT_hid hs, rfl, _, _, rfl, _, _, rfl, _, _, rfl, rfl, ?_, ?_⟩
    · rw [wipe_set (by simp), wipe_set (by simp), wipe_set (by simp), wipe_wipe]
    · have s3 := ((((s1.keep hk).wipe hv).set i1 r1).set i2 r2).set i3 r3
      refine hb Dl _ H' (c.ms hD m1) s3 _ fun yv H4 e4 r4 => ?_
      obtain ⟨zs, hz1, hz2, c'⟩ := c.add hD e4 (by rw [List.length_take]; omega) r4
      refine ⟨zs, hz1, hz2, ?_⟩
      rw [List.take_succ, hr]
      exact c'
  · rw [rx.len, ← hlen, List.take_length] at c
    obtain ⟨ys, hy, ry⟩ := c.l
    exact q Dl H' ys (none_back e1 hD) (e1.trans c.e) hy ry
end
def fewA : Ac → Ac
  | .add r n => .add r (n % 2)
  | .emn n => .emn (n % 2)
  | c => c
theorem fewA_ok {w w' : Nat} (hw : 2 ≤ w') {c : Ac} (h : c.ok w) : (fewA c).ok w' := by
  cases c with
  | add r n => exact ⟨h.1, by have := Nat.mod_lt n (show 0 < 2 by decide); omega⟩
  | copy r s => exact h
  | swap r s => exact h
  | emr r => exact h
  | emn n => show n % 2 < w'; have := Nat.mod_lt n (show 0 < 2 by decide); omega
def S_fewer : DS := fun ds M R => ∃ acs : List Ac, ds = [.lst (acs.map eA)] ∧ M = [] ∧ acs.length ≤ 6 ∧ R (.lst ((acs.map fewA).map eA)) []
def allV (w : Nat) : Nat → List (List Nat)
  | 0 => [[]]
  | k + 1 => (allV w k).flatMap fun v => (List.range w).map fun x => v ++ [x]
theorem allV_mem (w : Nat) : ∀ (k : Nat) (u : List Nat), u ∈ allV w k ↔ u.length = k ∧ ∀ x ∈ u, x < w
  | 0, u => by
    unfold allV
    rw [List.mem_singleton]
    constructor
    · rintro rfl; exact ⟨rfl, fun _ h => nomatch h⟩
    · rintro ⟨h, _⟩; exact List.eq_nil_of_length_eq_zero h
  | k + 1, u => by
    unfold allV
    rw [List.mem_flatMap]
    constructor
    · rintro ⟨v, hv, hu⟩
      obtain ⟨x, hx, rfl⟩ := List.mem_map.mp hu
      obtain ⟨h1, h2⟩ := (allV_mem w k v).mp hv
      refine ⟨by rw [List.length_append, h1]; rfl, fun y hy => ?_⟩
      rcases List.mem_append.mp hy with h | h
      · exact h2 y h
      · rw [List.mem_singleton.mp h]; exact List.mem_range.mp hx
    · rintro ⟨h1, h2⟩
      have hne : u ≠ [] := fun z => by rw [z] at h1; cases h1
      refine ⟨u.dropLast, (allV_mem w k _).mpr ⟨by rw [List.length_dropLast]; omega, fun x hx => h2 x (List.dropLast_subset _ hx)⟩, List.mem_map.mpr ⟨u.getLast hne, List.mem_range.mpr (h2 _ (List.getLast_mem hne)), List.dropLast_concat_getLast hne⟩⟩
theorem allV_nodup (w : Nat) : ∀ k, (allV w k).Nodup
  | 0 => List.pairwise_singleton ..
  | k + 1 => by
    unfold allV
    refine List.pairwise_flatMap.mpr ⟨fun v _ => List.pairwise_map.mpr (List.nodup_range.imp fun h e => h ?_), (allV_nodup w k).imp fun h x hx y hy e => h ?_⟩
    · have := List.append_cancel_left e
      injection this
    · obtain ⟨a, _, rfl⟩ := List.mem_map.mp hx
      obtain ⟨b, _, rfl⟩ := List.mem_map.mp hy
      exact (List.append_inj' e rfl).1
theorem allV_len (w : Nat) : ∀ k, (allV w k).length = w ^ k
  | 0 => rfl
  | k + 1 => by
    have : ∀ l : List (List Nat), (l.flatMap fun v => (List.range w).map fun x => v ++ [x]).length = l.length * w := fun l => by
      induction l with
      | nil => simp
      | cons a l ih => rw [List.flatMap_cons, List.length_append, ih, List.length_map, List.length_range, List.length_cons, Nat.add_mul]; omega
    show ((allV w k).flatMap _).length = _
    rw [this, allV_len w k, Nat.pow_succ]
abbrev liD (u : List Nat) : Dv := .lst (u.map iN)
def S_all_values : DS := fun ds M R => ∃ w : Nat, ds = [iN w] ∧ M = [] ∧ 1 ≤ w ∧ w ≤ 3 ∧ R (.lst ((allV w 4).map liD)) []
end Dw
namespace Dw
open PySem L2 TL
def fewC (c : Cd) : Cd := { c with ac := c.ac.map fewA }
def fewK (w : Nat) (D : Dk) : Dk := ⟨w, D.cs.map fewC⟩
theorem fewK_ok {D : Dk} (hD : D.ok) {w : Nat} (h2 : 2 ≤ w) (h3 : w ≤ 3) : Dk.ok (fewK w D) := by
  refine ⟨h2, by show w ≤ 16; omega, by show 1 ≤ (D.cs.map fewC).length; rw [List.length_map]; exact hD.ne, by show (D.cs.map fewC).length ≤ 8; rw [List.length_map]; exact hD.le, fun c hc => ?_, ?_⟩
  · obtain ⟨d, hd, rfl⟩ := List.mem_map.mp hc
    have h := hD.cs d hd
    refine ⟨h.nm, by show (d.ac.map fewA).length ≤ 6; rw [List.length_map]; exact h.len, fun a ha => ?_, h.pu⟩
    obtain ⟨b, hb, rfl⟩ := List.mem_map.mp ha
    exact fewA_ok h2 (h.ac b hb)
  · show ((D.cs.map fewC).map (·.nm)).Nodup
    rw [List.map_map]
    exact hD.nd
noncomputable def isB (P : Prop) : Bool := @decide P (Classical.propDecidable P)
theorem isB_iff {P : Prop} : isB P = true ↔ P := by
  unfold isB
  exact @decide_eq_true_iff P (Classical.propDecidable P)
/-- the order with the card at place p on top -/
def topAt (o : List Cd) (p : Nat) : List Cd := match o[p]? with
  | some c => c :: (o.take p ++ o.drop (p + 1))
  | none => []
theorem topAt_perm {o : List Cd} {p : Nat} (h : p < o.length) : (topAt o p).Perm o := by
  unfold topAt
  rw [List.getElem?_eq_getElem h]
  have : o = o.take p ++ o[p] :: o.drop (p + 1) := by rw [← List.drop_eq_getElem_cons h, List.take_append_drop]
  refine List.Perm.trans ?_ (List.Perm.of_eq this.symm)
  exact (List.perm_middle).symm
noncomputable def fndAt (w : Nat) (g : List Cd × List Nat) (o : List Cd) : List (List Cd × List Nat) := ((allV w 4).filter fun u => isB ((stepO w (o, u)).1 = g)).map fun u => (o, u)
noncomputable def fndL (w : Nat) (g : List Cd × List Nat) (n : Nat) : List (List Cd × List Nat) := (List.range n).flatMap fun p => fndAt w g (topAt g.1 p)
theorem mem_fndAt {w : Nat} {g : List Cd × List Nat} {o : List Cd} {t : List Cd × List Nat} : t ∈ fndAt w g o ↔ t.1 = o ∧ (t.2.length = 4 ∧ ∀ x ∈ t.2, x < w) ∧ (stepO w t).1 = g := by
  unfold fndAt
  rw [List.mem_map]
  constructor
  · rintro ⟨u, hu, rfl⟩
    obtain ⟨h1, h2⟩ := List.mem_filter.mp hu
    exact ⟨rfl, (allV_mem w 4 u).mp h1, isB_iff.mp h2⟩
  · rintro ⟨rfl, h2, h3⟩
    exact ⟨t.2, List.mem_filter.mpr ⟨(allV_mem w 4 _).mpr h2, isB_iff.mpr h3⟩, rfl⟩
theorem mem_fndL {D : Dk} (hD : D.ok) {g : List Cd × List Nat} (hg : StOk D g) (t : List Cd × List Nat) : t ∈ fndL D.w g g.1.length ↔ StOk D t ∧ (∀ x ∈ t.2, x < D.w) ∧ (stepO D.w t).1 = g := by
  unfold fndL
  rw [List.mem_flatMap]
  constructor
  · rintro ⟨p, hp, h⟩
    obtain ⟨h1, ⟨h2, h3⟩, h4⟩ := mem_fndAt.mp h
    exact ⟨⟨by rw [h1]; exact (topAt_perm (List.mem_range.mp hp)).trans hg.pm, h2⟩, h3, h4⟩
  · rintro ⟨h1, h2, h3⟩
    obtain ⟨o, u⟩ := t
    have hne : o ≠ [] := fun z => by
      have := h1.pm.length_eq
      rw [z] at this
      have := hD.ne
      simp at *
      omega
    match o, hne, h1, h3 with
    | c :: r, _, h1, h3 =>
      have hs : (stepO D.w (c :: r, u)).1.1 = g.1 := by rw [h3]
      have hs2 : r.take (min (depV (runV D.w c.ac u).1 c.pu) r.length) ++ c :: r.drop (min (depV (runV D.w c.ac u).1 c.pu) r.length) = g.1 := hs
      generalize hd : min (depV (runV D.w c.ac u).1 c.pu) r.length = d at hs2
      have hdl : d ≤ r.length := by rw [← hd]; exact Nat.min_le_right ..
      have htl : (r.take d).length = d := by rw [List.length_take]; omega
      refine ⟨d, List.mem_range.mpr ?_, mem_fndAt.mpr ⟨?_, ⟨h1.ln, h2⟩, h3⟩⟩
      · rw [← hs2, List.length_append, htl, List.length_cons]
        omega
      · unfold topAt
        have e1 : g.1[d]? = some c := by
          rw [← hs2, List.getElem?_append_right (by omega), htl, Nat.sub_self]
          rfl
        have e2 : g.1.take d = r.take d := by rw [← hs2, List.take_left' htl]
        have e3 : g.1.drop (d + 1) = r.drop d := by
          rw [← hs2, show r.take d ++ c :: r.drop d = (r.take d ++ [c]) ++ r.drop d by simp, List.drop_left' (by rw [List.length_append, htl]; rfl)]
        rw [e1, e2, e3]
        show c :: r = c :: (r.take d ++ r.drop d)
        rw [List.take_append_drop]
theorem fndL_nodup {D : Dk} (hD : D.ok) {g : List Cd × List Nat} (hg : StOk D g) : (fndL D.w g g.1.length).Nodup := by
  unfold fndL
  have hnd : g.1.Nodup := hg.pm.nodup_iff.mpr (List.Pairwise.of_map (·.nm) (fun a b h e => h (by rw [e])) hD.nd)
  refine List.pairwise_flatMap.mpr ⟨fun p _ => ?_, ?_⟩
  · unfold fndAt
    exact List.pairwise_map.mpr (((allV_nodup D.w 4).filter _).imp fun h e => h (congrArg Prod.snd e))
  · refine (List.pairwise_lt_range (n := g.1.length)).imp_of_mem fun {a b} ha hb hab x hx y hy e => ?_
    have hx1 := (mem_fndAt.mp hx).1
    have hy1 := (mem_fndAt.mp hy).1
    have ha' := List.mem_range.mp ha
    have hb' := List.mem_range.mp hb
    have : topAt g.1 a = topAt g.1 b := by rw [← hx1, ← hy1, e]
    unfold topAt at this
    rw [List.getElem?_eq_getElem ha', List.getElem?_eq_getElem hb'] at this
    injection this with h1 h2
    exact List.pairwise_iff_getElem.mp hnd a b ha' hb' hab h1
theorem fndL_perm {D : Dk} (hD : D.ok) {g : List Cd × List Nat} (hg : StOk D g) (hw : ∀ x ∈ g.2, x < D.w) : (preL D g).Perm (fndL D.w g g.1.length) :=
  (List.perm_ext_iff_of_nodup (preL_nodup hD g) (fndL_nodup hD hg)).mpr fun t => (mem_preL hD hg hw).trans (mem_fndL hD hg t).symm
def triS (D : Dk) (t : List Cd × List Nat) : Dv := triD (keyS D t) (stS t)
theorem kl_tri {α : Type} (f : α → List Nat × List Nat) : ∀ {l : List α}, l.Pairwise (fun x y => Kl (f x) (f y)) → ∀ a ∈ l, ∀ b ∈ l, a = b ∨ Kl (f a) (f b) ∨ Kl (f b) (f a)
  | [], _, _, h, _, _ => nomatch h
  | e :: l, hp, a, ha, b, hb => by
    obtain ⟨h1, h2⟩ := List.pairwise_cons.mp hp
    rcases List.mem_cons.mp ha with ea | ha2
    · rcases List.mem_cons.mp hb with eb | hb2
      · exact .inl (ea.trans eb.symm)
      · exact .inr (.inl (ea ▸ h1 b hb2))
    · rcases List.mem_cons.mp hb with eb | hb2
      · exact .inr (.inr (eb ▸ h1 a ha2))
      · exact kl_tri f h2 a ha2 b hb2
theorem tri_anti {D : Dk} (hD : D.ok) (g : List Cd × List Nat) {a b : Dv} (ha : a ∈ (preL D g).map (triS D)) (hb : b ∈ (preL D g).map (triS D)) (h1 : W.dataLe false toPy a b = true) (h2 : W.dataLe false toPy b a = true) : a = b := by
  obtain ⟨s, hs, rfl⟩ := List.mem_map.mp ha
  obtain ⟨t, ht, rfl⟩ := List.mem_map.mp hb
  rcases kl_tri (keyS D) (preL_lt hD g) s hs t ht with rfl | h | h
  · rfl
  · have := (tri_le h (stS s) (stS t)).2
    unfold triS at h2
    rw [this] at h2
    cases h2
  · have := (tri_le h (stS t) (stS s)).2
    unfold triS at h1
    rw [this] at h1
    cases h1
section
variable {K : PySem.W.Frag} {Pm F : List Addr} {M : Mu} {Γ : Ga} {ts : TS} {P : Po}
/-- what stands in front afterwards is let go -/
theorem ws_drpN (h : WpS K Pm F ts Γ M { P with n := fun Γ' M' => ∃ q M1, M' = q :: M1 ∧ P.n Γ' M1 }) : WpS K Pm F ts Γ M P := fun H0 σ H D S n r b c =>
  h H0 σ H D S (fun σ' H' Γ' M' ⟨q, M1, e, z⟩ S' k' => by
    subst e
    obtain ⟨S2, k2⟩ := S'.drp
    exact n σ' H' Γ' M1 z S2 (k'.trans k2)) r b c
end
theorem alike_strs : ∀ {a b : List Cd}, a.length = b.length → W.alikeAll (toPyL (a.map nmD)) (toPyL (b.map nmD)) = true
  | [], [], _ => by simp [toPyL, W.alikeAll]
  | x :: a, y :: b, h => by
    have := alike_strs (a := a) (b := b) (Nat.succ.inj h)
    simp only [List.map_cons, toPyL, toPy, W.alikeAll, W.alike, this]
    rfl
theorem alike_tri {D : Dk} {s t : List Cd × List Nat} (h1 : s.1.length = t.1.length) (h2 : s.2.length = t.2.length) : W.alike (toPy (triS D s)) (toPy (triS D t)) = true := by
  have a1 : W.alikeAll (toPyL ((keyS D s).1.map iN)) (toPyL ((keyS D t).1.map iN)) = true := alike_all (by unfold keyS; rw [List.length_map, List.length_map]; exact h1)
  have a2 : W.alikeAll (toPyL ((keyS D s).2.map iN)) (toPyL ((keyS D t).2.map iN)) = true := alike_all h2
  have a3 : W.alikeAll (toPyL (s.1.map nmD)) (toPyL (t.1.map nmD)) = true := alike_strs h1
  have a4 : W.alikeAll (toPyL (s.2.map iN)) (toPyL (t.2.map iN)) = true := alike_all h2
  unfold triS triD stS stD
  simp only [toPy, toPyL, W.alike, W.alikeAll, a1, a2, a4, Bool.and_true, Bool.true_and]
  exact a3
theorem pl_tri {D : Dk} {t : List Cd × List Nat} (h : Pl 2 (stS t)) : Pl 3 (triS D t) := by
  intro e he
  simp only [List.mem_cons, List.not_mem_nil, or_false] at he
  rcases he with rfl | rfl | rfl
  · intro e he; obtain ⟨i, _, rfl⟩ := List.mem_map.mp he; trivial
  · intro e he; obtain ⟨i, _, rfl⟩ := List.mem_map.mp he; trivial
  · exact h
theorem fndL_succ (w : Nat) (g : List Cd × List Nat) (i : Nat) : fndL w g (i + 1) = fndL w g i ++ fndAt w g (topAt g.1 i) := by
  unfold fndL
  rw [List.range_succ, List.flatMap_append]
  simp only [List.flatMap_cons, List.flatMap_nil, List.append_nil]
end Dw
namespace Dw
open PySem L2 TL
def S_measure (a : Ads) : DS := fun ds M R => ∃ (x : Str) (D : Dk), ds = [.str x] ∧ M = [] ∧ TxOk x D ∧ R (iN ((D.cs.map fun c => c.ac.length).sum)) []
def S_card_names (a : Ads) : DS := fun ds M R => ∃ (x : Str) (D : Dk), ds = [.str x] ∧ M = [] ∧ TxOk x D ∧ ∀ q, R (.adr q) [(q, .lst (D.cs.map nmD))]
theorem sum_cast {α : Type} (f : α → Nat) : ∀ l : List α, (l.map fun c => ((f c : Nat) : Int)).sum = (((l.map f).sum : Nat) : Int)
  | [] => rfl
  | c :: l => by rw [List.map_cons, List.sum_cons, List.map_cons, List.sum_cons, sum_cast f l]; omega
end Dw
namespace Dw
open PySem L2 TL
section
variable {K : PySem.W.Frag} {F : List Addr} {M : Mu} {Γ : Ga} {te : TE}
theorem log_small {n : Nat} (h : n < 1000000) : (n : Int).natAbs.log2 < 1920 := by
  show Nat.log2 n < 1920
  by_cases h0 : n = 0
  · subst h0; decide
  · have : n < 2 ^ 1920 := Nat.lt_of_lt_of_le h (by decide +kernel)
    exact (Nat.log2_lt h0).mpr this
theorem ed_fmtS {y : Str} (h : EvD K F M te Γ (.str y)) (hl : y.length ≤ 100000) : EvD K F M (tFmt te) Γ (.str y) := fun σ H m s Q q => h σ H m s _ fun v H1 e1 r1 => by
  cases r1
  exact .inl ⟨y, rfl, sz_of hl, q _ H1 e1 (.str _)⟩
theorem ed_fmtI {n : Nat} (h : EvD K F M te Γ (iN n)) (hl : n < 1000000) : EvD K F M (tFmt te) Γ (.str (num n)) := fun σ H m s Q q => h σ H m s _ fun v H1 e1 r1 => by
  cases r1
  exact .inr ⟨n, rfl, log_small hl, q _ H1 e1 (.str _)⟩
/-- the parts of an f-string -/
def EvJ (K : PySem.W.Frag) (F : List Addr) (M : Mu) (ts : List TE) (Γ : Ga) (ps : List Str) (N : Nat) : Prop :=
  ∀ (acc : Str) σ H, acc.length + N ≤ 1000000 → Ms K F M H → Sl K (ads M ++ F) H σ Γ → ∀ Q : Str → Hp → Prop, (∀ H', Same H H' → Q (ps.foldl (· ++ ·) acc) H') → tJs ts acc σ H Q
theorem ej_nil : EvJ K F M [] Γ [] 0 := fun acc σ H hz m s Q q => q H (Same.refl H)
theorem ej_cons {ts : List TE} {y : Str} {ps : List Str} {n N : Nat} (h : EvD K F M te Γ (.str y)) (hy : y.length ≤ n) (r : EvJ K F M ts Γ ps N) : EvJ K F M (te :: ts) Γ (y :: ps) (n + N) := fun acc σ H hz m s Q q => by
  unfold tJs
  refine h σ H m s _ fun v H1 e1 r1 => ?_
  cases r1
  have hl : (acc ++ y).length = acc.length + y.length := by rw [len_tl, len_tl, len_tl, tl_append, List.length_append]
  refine ⟨y, rfl, ?_, r (acc ++ y) σ H1 (by omega) (m.mono e1) (s.mono e1) Q fun H' e2 => q H' (e1.trans e2)⟩
  have : (1000000 : Nat) ≤ sizeLine := by decide
  omega
theorem ed_js {ts : List TE} {ps : List Str} {N : Nat} {z : Str} (h : EvJ K F M ts Γ ps N) (hN : Nat.ble N 1000000 = true) (e : (ps.map tl).flatten = tl z) : EvD K F M (fun σ H Q => tJs ts Str.empty σ H fun out H1 => Q (.str out) H1) Γ (.str z) := fun σ H m s Q q => by
  have hz : ps.foldl (· ++ ·) Str.empty = z := by
    refine ext_tl ?_
    have key : ∀ (l : List Str) (a : Str), tl (l.foldl (· ++ ·) a) = tl a ++ (l.map tl).flatten := fun l => by
      induction l with
      | nil => intro a; simp
      | cons x l ih => intro a; rw [List.foldl_cons, ih, tl_append, List.map_cons, List.flatten_cons, List.append_assoc]
    rw [key, e]
    rfl
  refine h Str.empty σ H (by show 0 + N ≤ 1000000; have := Nat.le_of_ble_eq_true hN; omega) m s _ fun H' e1 => ?_
  rw [hz]
  exact q _ H' e1 (.str _)
end
def S_write_put : DS := fun ds M R => ∃ c : Pu, ds = [pP c] ∧ M = [] ∧ c.ok ∧ R (.str (mk (putL c))) []
def S_write_action : DS := fun ds M R => ∃ (c : Ac) (w : Nat), ds = [pA c] ∧ M = [] ∧ w ≤ 1000 ∧ c.ok w ∧ R (.str (mk (actL c))) []
def S_write_card (a : Ads) : DS := fun ds M R => ∃ (c : Cd) (w : Nat), ds = [pC a c] ∧ M = [] ∧ w ≤ 1000 ∧ c.ok w ∧ R (.str (mk (cardL c))) []
def S_write_deck (a : Ads) : DS := fun ds M R => ∃ D : Dk, ds = [pD a D] ∧ M = [] ∧ D.ok ∧ R (.str (mk (deckL D))) []
def S_format_deck (a : Ads) : DS := fun ds M R => ∃ (x : Str) (D : Dk), ds = [.str x] ∧ M = [] ∧ TxOk x D ∧ R (.str (mk (deckL D))) []
end Dw
namespace Dw
open PySem L2 TL
/-- l is written by these words, spaces and line feeds between them -/
inductive LxF : List Nat → List W2 → Prop
  | nil : LxF [] []
  | sp {x : Nat} {r : List Nat} {ws : List W2} : x = 32 ∨ x = 10 → LxF r ws → LxF (x :: r) ws
  | lo {w r : List Nat} {k : Str} {ws : List W2} : w ≠ [] → w.all isLo = true → kindOf (mk w) = some k → (∀ x, r[0]? = some x → isLo x = false) → LxF r ws → LxF (w ++ r) ((k, mk w) :: ws)
  | dg {w r : List Nat} {k : Str} {ws : List W2} : w ≠ [] → w.all isDg = true → kindOf (mk w) = some k → (∀ x, r[0]? = some x → isDg x = false) → LxF r ws → LxF (w ++ r) ((k, mk w) :: ws)
  | ar {r : List Nat} {ws : List W2} : LxF r ws → LxF (45 :: 62 :: r) (w2 "->" :: ws)
  | sg {x : Nat} {r : List Nat} {ws : List W2} : x = 58 ∨ x = 44 ∨ x = 59 ∨ x = 63 → LxF r ws → LxF (x :: r) ((mk [x], mk [x]) :: ws)
theorem lo_nl {x : Nat} (h : isLo x = true) : x ≠ 10 := fun e => by subst e; revert h; decide +kernel
theorem dg_nl {x : Nat} (h : isDg x = true) : x ≠ 10 := fun e => by subst e; revert h; decide +kernel
theorem joinL_pre (a p : List Nat) (ps : List (List Nat)) : joinL [10] ((a ++ p) :: ps) = a ++ joinL [10] (p :: ps) := by
  cases ps with
  | nil => rfl
  | cons q ps => show (a ++ p) ++ ([10] ++ _) = a ++ (p ++ ([10] ++ _)); rw [List.append_assoc]
theorem joinL_hd {p : List Nat} {ps : List (List Nat)} {x : Nat} (h : p[0]? = some x) : (joinL [10] (p :: ps))[0]? = some x := by
  cases p with
  | nil => cases h
  | cons y p => rw [show (y :: p : List Nat) = [y] ++ p from rfl, joinL_pre]; exact h
theorem LxF.rows {l : List Nat} {ws : List W2} (h : LxF l ws) : ∃ (q : List Nat × List W2) (pw : List (List Nat × List W2)), l = joinL [10] ((q :: pw).map (·.1)) ∧ (∀ q' ∈ q :: pw, 10 ∉ q'.1 ∧ Lx q'.1 q'.2) ∧ ws = ((q :: pw).map (·.2)).flatten := by
  induction h with
  | nil => exact ⟨([], []), [], rfl, fun q' h => by rw [List.mem_singleton.mp h]; exact ⟨by simp, .nil⟩, rfl⟩
  | @sp x r ws hx h ih =>
    obtain ⟨q, pw, e1, e2, e3⟩ := ih
    rcases hx with rfl | rfl
    · refine ⟨(32 :: q.1, q.2), pw, ?_, fun q' hq => ?_, ?_⟩
      · rw [e1]; exact (joinL_pre [32] q.1 (pw.map (·.1))).symm
      · rcases List.mem_cons.mp hq with rfl | hq
        · have := e2 q (List.mem_cons_self ..)
          exact ⟨by simp [this.1], .sp this.2⟩
        · exact e2 q' (List.mem_cons_of_mem _ hq)
      · rw [e3]; rfl
    · refine ⟨([], []), q :: pw, ?_, fun q' hq => ?_, ?_⟩
      · rw [e1]; rfl
      · rcases List.mem_cons.mp hq with rfl | hq
        · exact ⟨by simp, .nil⟩
        · exact e2 q' hq
      · rw [e3]; rfl
  | @lo w r k ws h0 hw hk hr h ih =>
    obtain ⟨q, pw, e1, e2, e3⟩ := ih
    refine ⟨(w ++ q.1, (k, mk w) :: q.2), pw, ?_, fun q' hq => ?_, ?_⟩
    · rw [e1]; exact (joinL_pre w q.1 (pw.map (·.1))).symm
    · rcases List.mem_cons.mp hq with rfl | hq
      · have := e2 q (List.mem_cons_self ..)
        refine ⟨fun z => ?_, lx_lo h0 hw hk (fun x hx => hr x (by rw [e1]; exact joinL_hd hx)) this.2⟩
        rcases List.mem_append.mp z with z | z
        · exact lo_nl (List.all_eq_true.mp hw _ z) rfl
        · exact this.1 z
      · exact e2 q' (List.mem_cons_of_mem _ hq)
    · rw [e3]; rfl
  | @dg w r k ws h0 hw hk hr h ih =>
    obtain ⟨q, pw, e1, e2, e3⟩ := ih
    refine ⟨(w ++ q.1, (k, mk w) :: q.2), pw, ?_, fun q' hq => ?_, ?_⟩
    · rw [e1]; exact (joinL_pre w q.1 (pw.map (·.1))).symm
    · rcases List.mem_cons.mp hq with rfl | hq
      · have := e2 q (List.mem_cons_self ..)
        refine ⟨fun z => ?_, lx_dg h0 hw hk (fun x hx => hr x (by rw [e1]; exact joinL_hd hx)) this.2⟩
        rcases List.mem_append.mp z with z | z
        · exact dg_nl (List.all_eq_true.mp hw _ z) rfl
        · exact this.1 z
      · exact e2 q' (List.mem_cons_of_mem _ hq)
    · rw [e3]; rfl
  | @ar r ws h ih =>
    obtain ⟨q, pw, e1, e2, e3⟩ := ih
    refine ⟨([45, 62] ++ q.1, w2 "->" :: q.2), pw, ?_, fun q' hq => ?_, ?_⟩
    · rw [e1]; exact (joinL_pre [45, 62] q.1 (pw.map (·.1))).symm
    · rcases List.mem_cons.mp hq with rfl | hq
      · have := e2 q (List.mem_cons_self ..)
        exact ⟨by simp [this.1], lx_arrow this.2⟩
      · exact e2 q' (List.mem_cons_of_mem _ hq)
    · rw [e3]; rfl
  | @sg x r ws hx h ih =>
    obtain ⟨q, pw, e1, e2, e3⟩ := ih
    refine ⟨([x] ++ q.1, (mk [x], mk [x]) :: q.2), pw, ?_, fun q' hq => ?_, ?_⟩
    · rw [e1]; exact (joinL_pre [x] q.1 (pw.map (·.1))).symm
    · rcases List.mem_cons.mp hq with rfl | hq
      · have := e2 q (List.mem_cons_self ..)
        refine ⟨fun z => ?_, lx_sign hx this.2⟩
        rcases List.mem_append.mp z with z | z
        · have := List.mem_singleton.mp z
          omega
        · exact this.1 z
      · exact e2 q' (List.mem_cons_of_mem _ hq)
    · rw [e3]; rfl
theorem joinL_row {S : List Nat} : ∀ {ps : List (List Nat)} {p : List Nat}, p ∈ ps → p.length ≤ (joinL S ps).length
  | [], _, h => (nomatch h)
  | [p], q, h => by rw [List.mem_singleton.mp h]; exact Nat.le_refl _
  | p :: q :: r, x, h => by
    show _ ≤ (p ++ (S ++ joinL S (q :: r))).length
    rw [List.length_append, List.length_append]
    rcases List.mem_cons.mp h with rfl | h
    · omega
    · have := joinL_row (S := S) h
      omega
/-- a text of a deck's words, with any gaps -/
theorem txOk_loose {D : Dk} (hD : D.ok) {l : List Nat} (hl : l.length ≤ 50000) (h : LxF l ([w2 "wrap", ("number", num D.w), w2 ";"] ++ (D.cs.map cardT).flatten)) : TxOk (mk l) D := by
  obtain ⟨q, pw, e1, e2, e3⟩ := h.rows
  have hle := hD.le
  have hs : Txt.split (mk l) "\n" = ((q :: pw).map (·.1)).map mk := by
    rw [e1]
    exact split_rows (by simp) fun p hp => by
      obtain ⟨q', hq', rfl⟩ := List.mem_map.mp hp
      exact (e2 q' hq').1
  obtain ⟨ts, h1, h2⟩ := lex_rows (q :: pw) 0 fun q' hq' => (e2 q' hq').2
  rw [← e3] at h2
  refine ⟨hD, by rw [mk_len]; exact hl, ?_, ts ++ [⟨"end", "", (Txt.split (mk l) "\n").length, 0⟩], ?_, ?_, ⟨[], ?_⟩⟩
  · rw [hs]
    intro r hr
    obtain ⟨p, hp, rfl⟩ := List.mem_map.mp hr
    have := joinL_row (S := [10]) hp
    rw [← e1] at this
    rw [mk_len]
    omega
  · show (lexRows (Txt.split (mk l) "\n") 0).map _ = _
    rw [hs, List.map_map]
    rw [show (mk ∘ fun x : List Nat × List W2 => x.1) = fun q => mk q.1 from rfl, h1]
    rfl
  · have h3 := congrArg List.length h2
    have h4 := flat_le 40 (D.cs.map cardT) fun x hx => by
      obtain ⟨c, hc, rfl⟩ := List.mem_map.mp hx
      exact cardT_le (hD.cs c hc)
    rw [List.length_map, List.length_append] at h3
    rw [List.length_map] at h4
    rw [List.length_append]
    simp only [List.length_cons, List.length_nil] at h3 ⊢
    omega
  · rw [List.drop_zero, List.map_append, h2, List.append_nil, List.append_assoc]
    rfl
/-! the canonical text -/
theorem lf_num {n : Nat} {r : List Nat} {ws : List W2} (hn : n < 17) (hr : ∀ x, r[0]? = some x → isDg x = false) (h : LxF r ws) : LxF (numL n ++ r) (("number", num n) :: ws) := by
  have key : ∀ n < 17, numL n ≠ [] ∧ (numL n).all isDg = true ∧ kindOf (mk (numL n)) = some ("number" : Str) := by decide +kernel
  obtain ⟨a, b, c⟩ := key n hn
  rw [num_mk]
  exact .dg a b c hr h
theorem lf_reg {n : Nat} {r : List Nat} {ws : List W2} (hn : n < 4) (hr : ∀ x, r[0]? = some x → isLo x = false) (h : LxF r ws) : LxF (regL n ++ r) (("letter", mk (regL n)) :: ws) := by
  have key : ∀ n < 4, regL n ≠ [] ∧ (regL n).all isLo = true ∧ kindOf (mk (regL n)) = some ("letter" : Str) := by decide +kernel
  obtain ⟨a, b, c⟩ := key n hn
  exact .lo a b c hr h
theorem lf_name {s : Str} {r : List Nat} {ws : List W2} (hs : s ∈ namesA) (hr : ∀ x, r[0]? = some x → isLo x = false) (h : LxF r ws) : LxF (tl s ++ r) (("name", s) :: ws) := by
  have key : ∀ s ∈ namesA, tl s ≠ [] ∧ (tl s).all isLo = true ∧ kindOf (mk (tl s)) = some ("name" : Str) := by decide +kernel
  obtain ⟨a, b, c⟩ := key s hs
  have := LxF.lo a b c hr h
  rwa [mk_tl'] at this
theorem lf_kw {s : Str} {r : List Nat} {ws : List W2} (hs : s ∈ kw5) (h : LxF r ws) : LxF (tl s ++ (32 :: r)) ((s, s) :: ws) := by
  have key : ∀ s ∈ kw5, tl s ≠ [] ∧ (tl s).all isLo = true ∧ kindOf (mk (tl s)) = some s := by decide +kernel
  obtain ⟨a, b, c⟩ := key s hs
  have := LxF.lo a b c (r := 32 :: r) (fun x e => by rw [← Option.some.inj e]; decide +kernel) (.sp (.inl rfl) h)
  rwa [mk_tl'] at this
theorem lf_s {x : Nat} {s : Str} {r : List Nat} {ws : List W2} (hx : x = 58 ∨ x = 44 ∨ x = 59 ∨ x = 63) (hs : mk [x] = s) (h : LxF r ws) : LxF (x :: r) (w2 s :: ws) := by
  have := LxF.sg hx h
  rw [hs] at this
  exact this
theorem LxF.s1 {r : List Nat} {ws : List W2} (h : LxF r ws) : LxF (32 :: r) ws := .sp (.inl rfl) h
theorem lf_act {w : Nat} {a : Ac} {r : List Nat} {ws : List W2} (hw : w ≤ 16) (ha : a.ok w) (hr : Sep r) (h : LxF r ws) : LxF (actL a ++ r) (actT a ++ ws) := by
  have t1 : tl ("add" : Str) = [97, 100, 100] := by decide +kernel
  have t2 : tl ("copy" : Str) = [99, 111, 112, 121] := by decide +kernel
  have t3 : tl ("swap" : Str) = [115, 119, 97, 112] := by decide +kernel
  have t4 : tl ("emit" : Str) = [101, 109, 105, 116] := by decide +kernel
  have s32 : ∀ l : List Nat, Sep (32 :: l) := fun l => sep_cons (.inl rfl)
  cases a with
  | add q n =>
    have e : actL (.add q n) ++ r = tl ("add" : Str) ++ (32 :: (regL q ++ (32 :: (numL n ++ r)))) := by rw [t1]; simp [actL]
    rw [e]
    exact lf_kw (by decide) (lf_reg ha.1 (fun x q => (s32 _ x q).1) (.s1 (lf_num (by have := ha.2; omega) (fun x q => (hr x q).2) h)))
  | copy q s =>
    have e : actL (.copy q s) ++ r = tl ("copy" : Str) ++ (32 :: (regL q ++ (32 :: (regL s ++ r)))) := by rw [t2]; simp [actL]
    rw [e]
    exact lf_kw (by decide) (lf_reg ha.1 (fun x q => (s32 _ x q).1) (.s1 (lf_reg ha.2 (fun x q => (hr x q).1) h)))
  | swap q s =>
    have e : actL (.swap q s) ++ r = tl ("swap" : Str) ++ (32 :: (regL q ++ (32 :: (regL s ++ r)))) := by rw [t3]; simp [actL]
    rw [e]
    exact lf_kw (by decide) (lf_reg ha.1 (fun x q => (s32 _ x q).1) (.s1 (lf_reg ha.2 (fun x q => (hr x q).1) h)))
  | emr q =>
    have e : actL (.emr q) ++ r = tl ("emit" : Str) ++ (32 :: (regL q ++ r)) := by rw [t4]; simp [actL]
    rw [e]
    exact lf_kw (by decide) (lf_reg ha (fun x q => (hr x q).1) h)
  | emn n =>
    have e : actL (.emn n) ++ r = tl ("emit" : Str) ++ (32 :: (numL n ++ r)) := by rw [t4]; simp [actL]
    rw [e]
    exact lf_kw (by decide) (lf_num (by have : n < w := ha; omega) (fun x q => (hr x q).2) h)
theorem lf_put {c : Pu} {r : List Nat} {ws : List W2} (hc : c.ok) (hr : Sep r) (h : LxF r ws) : LxF (putL c ++ r) (putT c ++ ws) := by
  have s32 : ∀ l : List Nat, Sep (32 :: l) := fun l => sep_cons (.inl rfl)
  cases c with
  | num n => exact lf_num (by have : n ≤ 9 := hc; omega) (fun x q => (hr x q).2) h
  | reg q => exact lf_reg hc (fun x q => (hr x q).1) h
  | cho q m n =>
    have e : putL (.cho q m n) ++ r = regL q ++ (32 :: 63 :: 32 :: (numL m ++ (32 :: 58 :: 32 :: (numL n ++ r)))) := by simp [putL]
    rw [e]
    exact lf_reg hc.1 (fun x q => (s32 _ x q).1) (.s1 (lf_s (by simp) (by decide +kernel) (.s1 (lf_num (by have := hc.2.1; omega) (fun x q => (s32 _ x q).2) (.s1 (lf_s (by simp) (by decide +kernel) (.s1 (lf_num (by have := hc.2.2; omega) (fun x q => (hr x q).2) h))))))))
theorem lf_acts {w : Nat} (hw : w ≤ 16) : ∀ {as : List Ac} {r : List Nat} {ws : List W2}, (∀ a ∈ as, a.ok w) → Sep r → LxF r ws → LxF (joinL [44, 32] (as.map actL) ++ r) (actsT as ++ ws)
  | [], r, ws, _, _, h => h
  | [a], r, ws, ha, hr, h => by
    have e : joinL [44, 32] ([a].map actL) = actL a := by simp [joinL]
    rw [e]
    exact lf_act hw (ha a (List.mem_cons_self ..)) hr h
  | a :: b :: t, r, ws, ha, hr, h => by
    have e : joinL [44, 32] ((a :: b :: t).map actL) ++ r = actL a ++ (44 :: 32 :: (joinL [44, 32] ((b :: t).map actL) ++ r)) := by simp [joinL]
    have e2 : actsT (a :: b :: t) ++ ws = actT a ++ (w2 "," :: (actsT (b :: t) ++ ws)) := by simp [actsT]
    rw [e, e2]
    exact lf_act hw (ha a (List.mem_cons_self ..)) (sep_cons (by simp)) (lf_s (by simp) (by decide +kernel) (.s1 (lf_acts hw (fun x hx => ha x (List.mem_cons_of_mem _ hx)) hr h)))
theorem lf_card {w : Nat} {c : Cd} {r : List Nat} {ws : List W2} (hw : w ≤ 16) (hc : c.ok w) (h : LxF r ws) : LxF (cardL c ++ r) (cardT c ++ ws) := by
  have hend : LxF (59 :: r) (w2 ";" :: ws) := lf_s (by simp) (by decide +kernel) h
  have hput := lf_put hc.pu (r := 59 :: r) (ws := w2 ";" :: ws) (sep_cons (by simp)) hend
  have harr : LxF (45 :: 62 :: (32 :: (putL c.pu ++ (59 :: r)))) (w2 "->" :: (putT c.pu ++ (w2 ";" :: ws))) := .ar (.s1 hput)
  have hmid : LxF (joinL [44, 32] (c.ac.map actL) ++ ((if c.ac = [] then [] else [32]) ++ (45 :: 62 :: (32 :: (putL c.pu ++ (59 :: r)))))) (actsT c.ac ++ (w2 "->" :: (putT c.pu ++ (w2 ";" :: ws)))) := by
    refine lf_acts hw hc.ac ?_ ?_
    · split
      · exact sep_cons (by simp)
      · exact sep_cons (by simp)
    · split
      · exact harr
      · exact .s1 harr
  have e : cardL c ++ r = tl c.nm ++ (58 :: 32 :: (joinL [44, 32] (c.ac.map actL) ++ ((if c.ac = [] then [] else [32]) ++ (45 :: 62 :: (32 :: (putL c.pu ++ (59 :: r))))))) := by
    unfold cardL
    simp only [List.append_assoc, List.cons_append, List.nil_append]
  have e2 : cardT c ++ ws = (("name", c.nm) : W2) :: w2 ":" :: (actsT c.ac ++ (w2 "->" :: (putT c.pu ++ (w2 ";" :: ws)))) := by
    simp [cardT]
  rw [e, e2]
  exact lf_name hc.nm (fun x q => by rw [← Option.some.inj q]; decide +kernel) (lf_s (by simp) (by decide +kernel) (.s1 hmid))
theorem lf_rows {w : Nat} (hw : w ≤ 16) : ∀ {cs : List Cd}, (∀ c ∈ cs, c.ok w) → cs ≠ [] → LxF (joinL [10] (cs.map cardL)) ((cs.map cardT).flatten)
  | [], _, h => absurd rfl h
  | [c], hc, _ => by
    have := lf_card hw (hc c (List.mem_cons_self ..)) .nil
    rw [List.append_nil] at this
    simpa [joinL] using this
  | c :: d :: cs, hc, _ => by
    have h := lf_rows hw (cs := d :: cs) (fun x hx => hc x (List.mem_cons_of_mem _ hx)) (by simp)
    have := lf_card hw (hc c (List.mem_cons_self ..)) (LxF.sp (.inr rfl) h)
    exact this
theorem lf_deck {D : Dk} (hD : D.ok) : LxF (deckL D) ([w2 "wrap", ("number", num D.w), w2 ";"] ++ (D.cs.map cardT).flatten) := by
  have t1 : tl ("wrap" : Str) = [119, 114, 97, 112] := by decide +kernel
  have hhi := hD.hi
  have hne : D.cs ≠ [] := fun z => by
    have := hD.ne
    rw [z] at this
    cases this
  have h := lf_rows (by omega) hD.cs hne
  obtain ⟨c, cs, e⟩ : ∃ c cs, D.cs = c :: cs := by
    cases h : D.cs with
    | nil => exact absurd h hne
    | cons c cs => exact ⟨c, cs, rfl⟩
  have e1 : deckL D = tl ("wrap" : Str) ++ (32 :: (numL D.w ++ (59 :: 10 :: joinL [10] (D.cs.map cardL)))) := by
    unfold deckL
    rw [t1, e]
    simp [joinL]
  rw [e1]
  exact lf_kw (by decide) (lf_num (by omega) (fun x q => by rw [← Option.some.inj q]; decide +kernel) (lf_s (by simp) (by decide +kernel) (.sp (.inr rfl) h)))
/-! other gaps -/
def isP (x : Nat) : Bool := decide (x ∈ [58, 44, 59, 63, 62])
def gapC (b : Bool) : List (List Nat) := if b then [[], [32], [10]] else [[32], [32, 32], [10, 32]]
def freeB (p n : Option Nat) : Bool := p.any isP || n.any isP || n == some 45
inductive Lo : Option Nat → List Nat → List Nat → Prop
  | nil {p : Option Nat} : Lo p [] []
  | gap {p : Option Nat} {x : Nat} {r r' g : List Nat} : x = 32 ∨ x = 10 → g ∈ gapC (freeB p r[0]?) → Lo (some x) r r' → Lo p (x :: r) (g ++ r')
  | ch {p : Option Nat} {x : Nat} {r r' : List Nat} : x ≠ 32 → x ≠ 10 → Lo (some x) r r' → Lo p (x :: r) (x :: r')
theorem lo_app : ∀ {w r l' : List Nat} {p : Option Nat}, (∀ x ∈ w, x ≠ 32 ∧ x ≠ 10) → Lo p (w ++ r) l' → ∃ r', l' = w ++ r' ∧ Lo (w.getLast?.or p) r r'
  | [], r, l', p, _, h => ⟨l', rfl, h⟩
  | x :: w, r, l', p, hw, h => by
    obtain ⟨h1, h2⟩ := hw x (List.mem_cons_self ..)
    cases h with
    | gap hx => omega
    | ch _ _ h =>
      obtain ⟨r', rfl, h3⟩ := lo_app (fun y hy => hw y (List.mem_cons_of_mem _ hy)) h
      refine ⟨r', rfl, ?_⟩
      rw [List.getLast?_cons]
      cases hw : w.getLast? with
      | none => rw [hw] at h3; exact h3
      | some y => rw [hw] at h3; exact h3
theorem lo_head {p : Option Nat} {r r' : List Nat} (h : Lo p r r') (hp : p.any isP = false) {x : Nat} (hx : r'[0]? = some x) : x = 32 ∨ x = 10 ∨ isP x = true ∨ x = 45 ∨ r[0]? = some x := by
  cases h with
  | nil => cases hx
  | ch _ _ h => exact .inr (.inr (.inr (.inr hx)))
  | @gap _ y r r' g hy hg h =>
    unfold freeB at hg
    rw [hp, Bool.false_or] at hg
    cases hb : (r[0]?.any isP || r[0]? == some 45) with
    | false =>
      rw [hb] at hg
      simp only [gapC, Bool.false_eq_true, if_false, List.mem_cons, List.not_mem_nil, or_false] at hg
      rcases hg with rfl | rfl | rfl
      · exact .inl (Option.some.inj hx).symm
      · exact .inl (Option.some.inj hx).symm
      · exact .inr (.inl (Option.some.inj hx).symm)
    | true =>
      rw [hb] at hg
      simp only [gapC, if_true, List.mem_cons, List.not_mem_nil, or_false] at hg
      rcases hg with rfl | rfl | rfl
      · have hz : ∀ z, r[0]? = some z → isP z = true ∨ z = 45 := fun z hz => by
          rw [hz] at hb
          rcases (Bool.or_eq_true _ _).mp hb with q | q
          · exact .inl q
          · exact .inr (by simpa using q)
        cases h with
        | nil => cases hx
        | @gap _ z _ _ _ hy2 _ _ =>
          rcases hz z rfl with q | q
          · have h1 : isP 32 = false := by decide
            have h2 : isP 10 = false := by decide
            rcases hy2 with rfl | rfl
            · rw [h1] at q; cases q
            · rw [h2] at q; cases q
          · omega
        | @ch _ z _ _ _ _ _ =>
          rw [← Option.some.inj hx]
          rcases hz z rfl with q | q
          · exact .inr (.inr (.inl q))
          · exact .inr (.inr (.inr (.inl q)))
      · exact .inl (Option.some.inj hx).symm
      · exact .inr (.inl (Option.some.inj hx).symm)
theorem p_lo {x : Nat} (h : x = 32 ∨ x = 10 ∨ isP x = true ∨ x = 45) : isLo x = false ∧ isDg x = false := by
  have key : ∀ x ∈ [58, 44, 59, 63, 62], isLo x = false ∧ isDg x = false := by decide +kernel
  rcases h with rfl | rfl | h | rfl
  · decide +kernel
  · decide +kernel
  · exact key x (of_decide_eq_true h)
  · decide +kernel
theorem LxF.loose {l : List Nat} {ws : List W2} (h : LxF l ws) : ∀ {p : Option Nat} {l' : List Nat}, Lo p l l' → LxF l' ws := by
  induction h with
  | nil => intro p l' h; cases h; exact .nil
  | @sp x r ws hx h ih =>
    intro p l' h'
    cases h' with
    | ch h1 h2 _ => omega
    | gap _ hg h' =>
      have := ih h'
      unfold gapC at hg
      split at hg
      · simp only [List.mem_cons, List.not_mem_nil, or_false] at hg
        rcases hg with rfl | rfl | rfl
        · exact this
        · exact .sp (.inl rfl) this
        · exact .sp (.inr rfl) this
      · simp only [List.mem_cons, List.not_mem_nil, or_false] at hg
        rcases hg with rfl | rfl | rfl
        · exact .sp (.inl rfl) this
        · exact .sp (.inl rfl) (.sp (.inl rfl) this)
        · exact .sp (.inr rfl) (.sp (.inl rfl) this)
  | @lo w r k ws h0 hw hk hr h ih =>
    intro p l' h'
    have hall := List.all_eq_true.mp hw
    obtain ⟨r', rfl, h3⟩ := lo_app (fun x hx => ⟨lo_sp (hall x hx), lo_nl (hall x hx)⟩) h'
    refine .lo h0 hw hk (fun x hx => ?_) (ih h3)
    have hp : ((w.getLast?).or p).any isP = false := by
      rw [List.getLast?_eq_some_getLast h0]
      show isP (w.getLast h0) = false
      cases hq : isP (w.getLast h0) with
      | false => rfl
      | true =>
        have a := (p_lo (.inr (.inr (.inl hq)))).1
        rw [hall _ (List.getLast_mem h0)] at a
        cases a
    rcases lo_head h3 hp hx with q | q | q | q | q
    · exact (p_lo (.inl q)).1
    · exact (p_lo (.inr (.inl q))).1
    · exact (p_lo (.inr (.inr (.inl q)))).1
    · exact (p_lo (.inr (.inr (.inr q)))).1
    · exact hr x q
  | @dg w r k ws h0 hw hk hr h ih =>
    intro p l' h'
    have hall := List.all_eq_true.mp hw
    obtain ⟨r', rfl, h3⟩ := lo_app (fun x hx => ⟨dg_sp (hall x hx), dg_nl (hall x hx)⟩) h'
    refine .dg h0 hw hk (fun x hx => ?_) (ih h3)
    have hp : ((w.getLast?).or p).any isP = false := by
      rw [List.getLast?_eq_some_getLast h0]
      show isP (w.getLast h0) = false
      cases hq : isP (w.getLast h0) with
      | false => rfl
      | true =>
        have a := (p_lo (.inr (.inr (.inl hq)))).2
        rw [hall _ (List.getLast_mem h0)] at a
        cases a
    rcases lo_head h3 hp hx with q | q | q | q | q
    · exact (p_lo (.inl q)).2
    · exact (p_lo (.inr (.inl q))).2
    · exact (p_lo (.inr (.inr (.inl q)))).2
    · exact (p_lo (.inr (.inr (.inr q)))).2
    · exact hr x q
  | @ar r ws h ih =>
    intro p l' h'
    cases h' with
    | gap hx => omega
    | ch _ _ h' =>
      cases h' with
      | gap hx => omega
      | ch _ _ h' => exact .ar (ih h')
  | @sg x r ws hx h ih =>
    intro p l' h'
    cases h' with
    | gap hy => omega
    | ch _ _ h' => exact .sg hx (ih h')
/-- what a loop that goes through the text writes -/
def pvAt (l : List Nat) (k : Nat) : Option Nat := if k = 0 then none else l[k - 1]?
inductive LoP (l : List Nat) : Nat → List Nat → Prop
  | zero : LoP l 0 []
  | gap {k x : Nat} {s g : List Nat} : LoP l k s → l[k]? = some x → x = 32 ∨ x = 10 → g ∈ gapC (freeB (pvAt l k) l[k + 1]?) → LoP l (k + 1) (s ++ g)
  | ch {k x : Nat} {s : List Nat} : LoP l k s → l[k]? = some x → x ≠ 32 → x ≠ 10 → LoP l (k + 1) (s ++ [x])
theorem LoP.to {l : List Nat} {k : Nat} {s : List Nat} (h : LoP l k s) : ∀ {r' : List Nat}, Lo (pvAt l k) (l.drop k) r' → Lo none l (s ++ r') := by
  induction h with
  | zero => exact fun h => h
  | @gap k x s g h hx h32 hg ih =>
    intro r' h'
    rw [List.append_assoc]
    refine ih ?_
    obtain ⟨hlt, he⟩ := List.getElem?_eq_some_iff.mp hx
    rw [List.drop_eq_getElem_cons hlt, he]
    have e : pvAt l (k + 1) = some x := hx
    rw [e] at h'
    refine .gap h32 ?_ h'
    rw [List.getElem?_drop]
    exact hg
  | @ch k x s h hx h1 h2 ih =>
    intro r' h'
    rw [List.append_assoc]
    refine ih ?_
    obtain ⟨hlt, he⟩ := List.getElem?_eq_some_iff.mp hx
    rw [List.drop_eq_getElem_cons hlt, he]
    have e : pvAt l (k + 1) = some x := hx
    rw [e] at h'
    exact .ch h1 h2 h'
theorem LoP.len {l : List Nat} {k : Nat} {s : List Nat} (h : LoP l k s) : s.length ≤ 2 * k := by
  induction h with
  | zero => exact Nat.le_refl _
  | @gap k x s g h hx h32 hg ih =>
    rw [List.length_append]
    have : g.length ≤ 2 := by
      unfold gapC at hg
      split at hg <;> (simp only [List.mem_cons, List.not_mem_nil, or_false] at hg; rcases hg with rfl | rfl | rfl <;> decide)
    omega
  | ch _ _ _ _ ih => rw [List.length_append]; simp only [List.length_cons, List.length_nil]; omega
theorem deckL_le {D : Dk} (hD : D.ok) : (deckL D).length ≤ 2709 := by
  have hhi := hD.hi
  have hle := hD.le
  have hrl : ∀ p ∈ (([119, 114, 97, 112, 32] ++ numL D.w ++ [59]) :: D.cs.map cardL), p.length ≤ 300 := fun p hp => by
    rcases List.mem_cons.mp hp with rfl | hp
    · have := numL_le (n := D.w) (by omega)
      simp; omega
    · obtain ⟨c, hc, rfl⟩ := List.mem_map.mp hp
      exact cardL_le (by omega) (hD.cs c hc)
  have := joinL_le [10] 300 _ hrl
  rw [List.length_cons, List.length_map] at this
  have h5 : (D.cs.length + 1) * (300 + [10].length) ≤ 9 * 301 := Nat.mul_le_mul (by omega) (by simp)
  unfold deckL
  omega
theorem LoP.ok {D : Dk} (hD : D.ok) {s : List Nat} (h : LoP (deckL D) (deckL D).length s) : TxOk (mk s) D := by
  have hl := deckL_le hD
  refine txOk_loose hD (by have := h.len; omega) ((lf_deck hD).loose (p := none) ?_)
  have := h.to (r' := []) (by rw [List.drop_length]; exact .nil)
  rwa [List.append_nil] at this
end Dw
namespace Dw
open PySem L2 TL
theorem take_stepA {α : Type} {ds : List α} {i : Nat} {e : α} (f : α → Bool) (g : α → Dv) (h : ds[i]? = some e) : ((ds.take (i + 1)).filter f).map g = if f e then ((ds.take i).filter f).map g ++ [g e] else ((ds.take i).filter f).map g := by
  obtain ⟨hi, he⟩ := List.getElem?_eq_some_iff.mp h
  rw [List.take_succ, h, Option.toList_some, List.filter_append, List.map_append]
  cases hf : f e with
  | true => simp [hf]
  | false => simp [hf]
section
variable {K : PySem.W.Frag} {Pm F : List Addr} {M : Mu} {Γ : Ga} {ta tb te tl' to : TE} {x y z d : Dv} {t u : TT} {R : Dv → Mu → Prop} {H0 H H' : Hp} {σ : L2.St}
theorem en_lcS {j : Nat} {z : Str} (f : Nat → Bool) (g : Nat → Dv) (h : EvD K F M tl' Γ (.str z)) (hz : z.length ≤ 60000)
    (ht : ∀ (i : Nat) c, (tl z)[i]? = some c → ∀ Dl, EvT K (Dl :: F) M t (Γ.set j (some (.str (mk [c])))) (f c)) (hg : ∀ (i : Nat) c, (tl z)[i]? = some c → f c = true → ∀ Dl, EvD K (Dl :: F) M te (Γ.set j (some (.str (mk [c])))) (g c)) :
    EvN K F M (tLc (iStr tl') (gName j) t te [j]) Γ (((tl z).filter f).map g) := fun σ H m s Q q => h σ H m s _ fun v H1 e1 r1 => by
  cases r1
  have m1 := m.mono e1
  have s1 := s.mono e1
  have hlz : (tl z).length = z.cps.size := Array.length_toList
  refine ⟨z, rfl, fun Dl hD => ?_⟩
  refine lc_it (walk_str (z := z)) (fun i => Lcs K F M H1 Dl ((((tl z).take i).filter f).map g)) ⟨same_new hD, [], upd_same, .nil⟩ (fun i H' _ c => trivial) (fun i x H' H2 hi c hy => ?_) fun H' c => ?_
  · obtain ⟨rfl, c', hc, rfl⟩ := hy
    have he : (tl z)[i]? = some c' := by
      show z.cps.toList[i]? = some c'
      rw [Array.getElem?_toList]
      exact hc
    refine ⟨wipe_one σ j _, c.turn hD m1 s1 (.str (mk [c'])) ?_ (ht i c' he Dl) (fun hb => hg i c' he hb Dl) (take_stepA f g he)⟩
    have h1 := List.length_filter_le f ((tl z).take i)
    have h2 : (tl z).length ≤ 60000 := by rw [← len_tl]; exact hz
    rw [List.length_map]
    rw [List.length_take] at h1
    omega
  · rw [show (tl z).take z.cps.size = tl z from by rw [← hlz, List.take_length]] at c
    obtain ⟨ys, hy, ry⟩ := c.l
    exact q Dl H' ys (none_back e1 hD) (e1.trans c.e) hy ry
end
theorem tl_cutS (z : Str) (lo hi : Option Int) : tl (cutS z lo hi) = ((tl z).drop (HT.sIx z.length 0 lo)).take (HT.sIx z.length z.length hi - HT.sIx z.length 0 lo) := rfl
theorem take_one {l : List Nat} : ∀ {k : Nat}, (l.drop k).take 1 = l[k]?.toList := fun {k} => by
  by_cases h : k < l.length
  · rw [List.drop_eq_getElem_cons h, List.getElem?_eq_getElem h]; rfl
  · rw [List.drop_eq_nil_of_le (by omega), List.getElem?_eq_none (by omega)]; rfl
theorem cut_prev {z : Str} {k : Nat} (h : k < z.length) : tl (cutS z (some (max 0 ((k : Int) - 1))) (some (k : Int))) = (pvAt (tl z) k).toList := by
  rw [tl_cutS]
  have e : max 0 ((k : Int) - 1) = ((k - 1 : Nat) : Int) := by omega
  rw [e, HT.sIx_nat, HT.sIx_nat]
  unfold pvAt
  cases k with
  | zero => rw [Nat.min_eq_left (by omega)]; simp
  | succ k =>
    rw [Nat.min_eq_left (by omega), Nat.min_eq_left (by omega), if_neg (by omega), show k + 1 - (k + 1 - 1) = 1 from by omega, take_one]
theorem cut_next {z : Str} {k : Nat} (h : k < z.length) : tl (cutS z (some ((k : Int) + 1)) (some ((k : Int) + 2))) = (tl z)[k + 1]?.toList := by
  rw [tl_cutS]
  rw [show (k : Int) + 1 = ((k + 1 : Nat) : Int) from by omega, show (k : Int) + 2 = ((k + 2 : Nat) : Int) from by omega, HT.sIx_nat, HT.sIx_nat, ← take_one]
  have hl : (tl z).length = z.length := (len_tl z).symm
  by_cases h2 : k + 2 ≤ z.length
  · rw [Nat.min_eq_left (by omega), Nat.min_eq_left (by omega), show k + 2 - (k + 1) = 1 from by omega]
  · rw [List.drop_eq_nil_of_le (show (tl z).length ≤ k + 1 by omega), List.drop_eq_nil_of_le (by omega)]; simp
theorem free_any (p n : Option Nat) : (!decide ((((p.toList ++ n.toList).filter isP).map fun c => Dv.str (mk [c])) = [])) = (p.any isP || n.any isP) := by
  cases p with
  | none =>
    cases n with
    | none => rfl
    | some y => cases h : isP y <;> simp [h]
  | some x =>
    cases n with
    | none => cases h : isP x <;> simp [h]
    | some y => cases h : isP x <;> cases h2 : isP y <;> simp [h, h2]
theorem free_arr (n : Option Nat) (x : Str) (h : tl x = n.toList) : decide (x = ("-" : Str)) = (n == some 45) := by
  have e : tl ("-" : Str) = [45] := by decide +kernel
  cases n with
  | none =>
    refine decide_eq_false fun z => ?_
    rw [z, e] at h
    cases h
  | some y =>
    by_cases hy : y = 45
    · subst hy
      refine decide_eq_true (ext_tl ?_)
      rw [h, e]; rfl
    · have : (some y == some 45) = false := by simpa using hy
      rw [this]
      refine decide_eq_false fun z => ?_
      rw [z, e] at h
      exact hy (List.cons.inj h).1.symm
theorem isP_tl {c : Nat} : decide (c ∈ (":,;?>" : Str).cps.toList) = isP c := by
  have e : (":,;?>" : Str).cps.toList = [58, 44, 59, 63, 62] := by decide +kernel
  rw [e]
  unfold isP
  refine decide_eq_decide.mpr ?_
  simp only [List.mem_cons, List.not_mem_nil, or_false]
theorem gap_in (c : Nat) : decide ((mk [c] : Str) ∈ ([" ", "\n"] : List Str)) = decide (c = 32 ∨ c = 10) := by
  have e1 : (" " : Str) = mk [32] := by decide +kernel
  have e2 : ("\n" : Str) = mk [10] := by decide +kernel
  refine decide_eq_decide.mpr ?_
  rw [e1, e2, List.mem_cons, List.mem_singleton]
  constructor
  · rintro (h | h)
    · exact .inl (List.cons.inj (mk_inj h)).1
    · exact .inr (List.cons.inj (mk_inj h)).1
  · rintro (rfl | rfl)
    · exact .inl rfl
    · exact .inr rfl
theorem gap_t : ([Dv.str "", Dv.str " ", Dv.str "\n"] : List Dv) = (gapC true).map fun g => Dv.str (mk g) := by
  have h1 : ("" : Str) = mk [] := by decide +kernel
  have h2 : (" " : Str) = mk [32] := by decide +kernel
  have h3 : ("\n" : Str) = mk [10] := by decide +kernel
  rw [h1, h2, h3]
  rfl
theorem gap_f : ([Dv.str " ", Dv.str "  ", Dv.str "\n "] : List Dv) = (gapC false).map fun g => Dv.str (mk g) := by
  have h1 : (" " : Str) = mk [32] := by decide +kernel
  have h2 : ("  " : Str) = mk [32, 32] := by decide +kernel
  have h3 : ("\n " : Str) = mk [10, 32] := by decide +kernel
  rw [h1, h2, h3]
  rfl
end Dw
namespace Dw
open PySem L2
section
variable {K : PySem.W.Frag} {h : Heap} {mg : Str → Option Value} {x qual m pv : Str} {st : Stmt} {ps ks : List Str} {f : Addr} {kws : List (Str × V)} {n : Nat}
theorem fun_of {fd : FuncData} (F : FunD K x qual (defArgs st) (defBody st) (defScope st) [] kws f fd) : Fun K x qual st f fd ∧ ∃ kV doc pm an cdv ct, fd = PySem.W.fnOf x qual (defArgs st) (defBody st) (defScope st) .none kV doc pm an cdv ct := by
  obtain ⟨⟨oc, od, dV, kV, doc, pm, an, cdv, ct, osl, e, lk, hc, hD, _⟩, kp⟩ := F
  rcases hD with ⟨_, z⟩ | ⟨z, _⟩
  · subst z
    subst e
    exact ⟨⟨⟨oc, od, kV, doc, pm, an, cdv, ct, osl, rfl, lk, hc⟩, kp⟩, kV, doc, pm, an, cdv, ct, rfl⟩
  · exact absurd rfl z
theorem fun_of2 {fd : FuncData} (F : Fun K x qual st f fd) : Fun K x qual st f fd ∧ ∃ kV doc pm an cdv ct, fd = PySem.W.fnOf x qual (defArgs st) (defBody st) (defScope st) .none kV doc pm an cdv ct := by
  obtain ⟨oc, od, kV, doc, pm, an, cdv, ct, osl, rfl, lk, hc⟩ := id F.ex
  exact ⟨F, kV, doc, pm, an, cdv, ct, rfl⟩
theorem defT_of (g : mg x = some (.ref f)) (F : ∃ fd, FunD K x qual (defArgs st) (defBody st) (defScope st) [] [] f fd)
    (hb : ∀ (kV doc pm : Value) (an : Option Addr) (cdv ct : Value) (us : List Value), us.length = ps.length → bindArgs (PySem.W.fnOf x qual (defArgs st) (defBody st) (defScope st) .none kV doc pm an cdv ct) ⟨us, []⟩ = pure (ps.zip us)) : DefT K mg x qual st ps := by
  obtain ⟨fd, F⟩ := F
  exact ⟨f, fd, (fun_of F).1, g, (fun_of F).1.binds hb⟩
theorem defKT_of (g : mg x = some (.ref f)) (F : ∃ fd, FunD K x qual (defArgs st) (defBody st) (defScope st) [] (ks.map fun y => (y, V.non)) f fd) (hne : ks ≠ []) (hn : n + ks.length = ps.length)
    (hb : ∀ (kV doc pm : Value) (an : Option Addr) (cdv ct : Value) (us ws : List Value), us.length = n → ws.length = ks.length → bindArgs (PySem.W.fnOf x qual (defArgs st) (defBody st) (defScope st) .none kV doc pm an cdv ct) ⟨us, ks.zip ws⟩ = pure (ps.zip (us ++ ws)))
    (hc : ∀ (D : Addr) (doc pm : Value) (an : Option Addr) (cdv ct : Value) (us ws : List Value), us.length = n → ws.length = ks.length → KwChain D (ks.zip ws) (bindArgs (PySem.W.fnOf x qual (defArgs st) (defBody st) (defScope st) .none (.ref D) doc pm an cdv ct) ⟨us, []⟩) (ps.zip (us ++ ws))) : DefKT K mg x qual st ps n ks := by
  obtain ⟨fd, F⟩ := F
  obtain ⟨F1, kV, doc, pm, an, cdv, ct, rfl⟩ := fun_of F
  have e1 : (ks.map fun y => (y, V.non)).map (·.1) = ks := by rw [List.map_map]; exact List.map_id _
  have e2 : (ks.map fun y => (y, V.non)).map (·.2) = List.replicate ks.length V.non := by
    rw [List.map_map]
    exact List.map_const' ..
  obtain ⟨ds, hd, hbd⟩ := FunD.binds0 (ps := ps) F n (by simpa using hne) (by rw [List.length_map]; exact hn) fun D doc pm an cdv ct us ws h1 h2 => by
    rw [e1]
    exact hc D doc pm an cdv ct us ws h1 (by rw [h2, List.length_map])
  exact ⟨f, _, F1, g, ⟨fun s us ws _ h1 h2 => .of_eq (hb kV doc pm an cdv ct us ws h1 h2), fun r1 r2 => r1.append r2⟩, ds, by rw [← e2]; exact hd, hbd⟩
theorem clsT_of {C : Addr} {fs : List Str} (c : Cls K C) (g : mg x = some (.ref C)) (na : ∀ f ∈ fs, NoAttr K C f) (hm : Mk K C f) (F : ∃ fd, FunD K "__init__" qual (defArgs st) (defBody st) (defScope st) [] [] f fd)
    (hb : ∀ (kV doc pm : Value) (an : Option Addr) (cdv ct : Value) (us : List Value), us.length = ps.length → bindArgs (PySem.W.fnOf "__init__" qual (defArgs st) (defBody st) (defScope st) .none kV doc pm an cdv ct) ⟨us, []⟩ = pure (ps.zip us)) : ClsT K mg x C qual st ps fs := by
  obtain ⟨fd, F⟩ := F
  exact ⟨c, g, na, f, fd, (fun_of F).1, hm, (fun_of F).1.binds hb⟩
theorem mthT_of {C : Addr} (hm : Meth K C m f) (F : ∃ fd, FunD K m qual (defArgs st) (defBody st) (defScope st) [] [] f fd)
    (hb : ∀ (kV doc pm : Value) (an : Option Addr) (cdv ct : Value) (us : List Value), us.length = ps.length → bindArgs (PySem.W.fnOf m qual (defArgs st) (defBody st) (defScope st) .none kV doc pm an cdv ct) ⟨us, []⟩ = pure (ps.zip us)) : MthT K C m qual st ps := by
  obtain ⟨fd, F⟩ := F
  exact ⟨f, fd, (fun_of F).1, hm, (fun_of F).1.binds hb⟩
theorem mthS_of {C : Addr} (hm : Meth K C m f) (F : ∃ fd, FunD K m qual (defArgs st) (defBody st) (defScope st) [] [] f fd)
    (hb : ∀ (kV doc pm : Value) (an : Option Addr) (cdv ct : Value) (us rest : List Value), us.length = ps.length → bindArgs (PySem.W.fnOf m qual (defArgs st) (defBody st) (defScope st) .none kV doc pm an cdv ct) ⟨us ++ rest, []⟩ = (newTuple rest >>= fun t => pure (ps.zip us ++ [(pv, t)]))) : MthS K C m qual st ps pv := by
  obtain ⟨fd, F⟩ := F
  obtain ⟨F1, kV, doc, pm, an, cdv, ct, rfl⟩ := fun_of F
  exact ⟨f, _, F1, hm, fun us rest h1 => hb kV doc pm an cdv ct us rest h1⟩
theorem na_nil {C : Addr} : ∀ f ∈ ([] : List Str), NoAttr K C f := fun _ h => (nomatch h)
theorem na_cons {C : Addr} {g : Str} {gs : List Str} (h1 : NoAttr K C g) (h2 : ∀ f ∈ gs, NoAttr K C f) : ∀ f ∈ g :: gs, NoAttr K C f := fun f h => by
  rcases List.mem_cons.mp h with e | e
  · rw [e]; exact h1
  · exact h2 f e
theorem int_of {i : Int} (c : ∃ t, mg x = some (.int i t)) : CstT mg x (.int i) := let ⟨t, e⟩ := c; ⟨_, e, t, rfl⟩
theorem str_of {z : Str} (c : ∃ t, mg x = some (.str z t)) : CstT mg x (.str z) := let ⟨t, e⟩ := c; ⟨_, e, t, rfl⟩
theorem tup_of (X : K.In h) (G : h.Ns mainGlobals mg) {zs : List Str} (c : tupF x zs K = true) : TupT K mg x (zs.map Dv.str) := by
  obtain ⟨c1, c⟩ := He.ba c
  obtain ⟨c2, c3⟩ := He.ba c
  have hv : (zs.map He.Dv.str).map (He.Dv.v K) = zs.map V.str := by rw [List.map_map]; rfl
  have key : ∃ o, K.lookup (He.ga K x) = some o ∧ NdO o := by
    have c2 := c2
    unfold He.tupB at c2
    cases q : K.lookup (He.ga K x) with
    | none => rw [q] at c2; cases c2
    | some o =>
      obtain ⟨oc, od, dt, osl⟩ := o
      rw [q] at c2 c3
      cases od with
      | some a => cases c3
      | none =>
        cases oc with
        | type c =>
          cases dt with
          | seq its n =>
            obtain ⟨h1, _⟩ := He.ba c2
            exact ⟨_, rfl, congrArg Value.type (of_decide_eq_true h1), rfl⟩
          | _ => cases c2
        | _ => cases dt <;> cases c2
  exact ⟨He.ga K x, PySem.W.mg_of X G (He.eqO_ok c1), fun H => .tup ⟨by have := He.tupB_ok c2 H; rw [hv] at this; exact this, .inr key⟩ (RpL.strs zs), fun H => let ⟨o, q, z⟩ := key; .inr (.inl ⟨rfl, o, q, z.1, z.2⟩)⟩
theorem hid_nil {H : Hp} : hid [] H = H := by
  funext a
  unfold hid
  rw [if_neg (by simp)]
theorem law_sp {H : Hp} {a : Addr} {ns : List Int} {E : XK} (hl : ns.length ≤ 63) (hS : SqL K H a (ns.map V.int)) : spD K 1 S_law [.ref a] H (fun v _ => v = .bl true) E :=
  ⟨[], [], [.sql (ns.map .int)], fun d _ => d = .bl true, rfl, ⟨fun _ h => (nomatch h), List.nodup_nil, fun _ h => (nomatch h), fun _ h => (nomatch h)⟩, by
    show RpL K (hid [] H) _ _
    rw [hid_nil]
    exact .cons (.sql hS (RpL.ints ns)) .nil, ⟨ns, rfl, rfl, hl, fun _ => rfl⟩, fun v H' d N M' hR _ _ _ _ r => by
    have hR' : d = .bl true := hR
    subst hR'
    cases r
    rfl⟩
end
end Dw
namespace Dk
open PySem L2 Dw TL
structure Txt (K : PySem.W.Frag) (mg : Str → Option Value) (a : Ads) : Prop where
  d_below : DefT K mg "_law_below" "_law_below" (top 50) ["_law_d", "_law_limit"]
  d_random : DefT K mg "_law_random" "_law_random" (top 49) ["_law_script", "_law_salt"]
  d_shuffled : DefT K mg "_law_shuffled" "_law_shuffled" (top 51) ["_law_d", "_law_items"]
  d_action : DefT K mg "_law_action" "_law_action" (top 52) ["_law_d", "_law_wrap"]
  d_put : DefT K mg "_law_put" "_law_put" (top 53) ["_law_d", "_law_many"]
  d_deck : DefT K mg "_law_deck" "_law_deck" (top 54) ["_law_d", "_law_most"]
  d_card_text : DefT K mg "_law_card_text" "_law_card_text" (top 55) ["_law_card"]
  d_text : DefT K mg "_law_text" "_law_text" (top 56) ["_law_deck_here"]
  d_skip : DefT K mg "skip" "skip" (top 27) ["row", "column", "characters"]
  d_find_end : DefT K mg "find_end" "find_end" (top 26) ["row", "column"]
  d_is_word : DefT K mg "is_word" "is_word" (top 29) ["text"]
  d_is_number : DefT K mg "is_number" "is_number" (top 30) ["text"]
  d_find_kind : DefT K mg "find_kind" "find_kind" (top 28) ["text"]
  k_Token : ClsT K mg "Token" a.token "Token.__init__" (inClass (top 23) 0) ["self", "kind", "text", "line", "column"] ["kind", "text", "line", "column"]
  d_read_row : DefT K mg "read_row" "read_row" (top 25) ["row", "line"]
  d_read_tokens : DefT K mg "read_tokens" "read_tokens" (top 24) ["text"]
  k_Parser : ClsT K mg "Parser" a.parser "Parser.__init__" (inClass (top 38) 0) ["self", "tokens"] ["tokens", "at", "fault", "wrap"]
  m_Parser_sees : MthT K a.parser "sees" "Parser.sees" (inClass (top 38) 1) ["self", "kind"]
  m_Parser_take : MthS K a.parser "take" "Parser.take" (inClass (top 38) 2) ["self"] "kinds"
  m_Parser_read_number : MthT K a.parser "read_number" "Parser.read_number" (inClass (top 38) 12) ["self", "reason", "least", "most"]
  m_Parser_read_letter : MthT K a.parser "read_letter" "Parser.read_letter" (inClass (top 38) 9) ["self"]
  m_Parser_read_value : MthT K a.parser "read_value" "Parser.read_value" (inClass (top 38) 10) ["self"]
  m_Parser_read_depth : MthT K a.parser "read_depth" "Parser.read_depth" (inClass (top 38) 11) ["self"]
  m_Parser_read_action : MthT K a.parser "read_action" "Parser.read_action" (inClass (top 38) 7) ["self"]
  m_Parser_read_put : MthT K a.parser "read_put" "Parser.read_put" (inClass (top 38) 8) ["self"]
  m_Parser_read_actions : MthT K a.parser "read_actions" "Parser.read_actions" (inClass (top 38) 6) ["self"]
  k_Card : ClsT K mg "Card" a.card "Card.__init__" (inClass (top 10) 0) ["self", "name", "actions", "put"] ["name", "actions", "put"]
  m_Parser_read_card : MthT K a.parser "read_card" "Parser.read_card" (inClass (top 38) 5) ["self", "earlier"]
  k_Deck : ClsT K mg "Deck" a.deck "Deck.__init__" (inClass (top 11) 0) ["self", "wrap", "cards"] ["wrap", "cards", "names", "by_name"]
  m_Parser_read_deck : MthT K a.parser "read_deck" "Parser.read_deck" (inClass (top 38) 4) ["self"]
  d_parse_deck : DefT K mg "parse_deck" "parse_deck" (top 37) ["text"]
  d_equal : DefT K mg "_law_equal" "_law_equal" (top 57) ["_law_actual", "_law_expected"]
  d_measure : DefT K mg "measure" "measure" (top 47) ["deck"]
  d_card_names : DefT K mg "card_names" "card_names" (top 41) ["deck"]
  d_write_put : DefT K mg "write_put" "write_put" (top 45) ["put"]
  d_write_action : DefT K mg "write_action" "write_action" (top 44) ["action"]
  d_write_card : DefT K mg "write_card" "write_card" (top 43) ["card"]
  d_write_deck : DefT K mg "write_deck" "write_deck" (top 42) ["deck"]
  d_format_deck : DefT K mg "format_deck" "format_deck" (top 40) ["deck"]
  d_law : DefT K mg "law" "law" (top 58) ["_law_script"]
  c_DIGITS : CstT mg "DIGITS" (.str "0123456789")
  c_LETTERS : CstT mg "LETTERS" (.str "abcdefghijklmnopqrstuvwxyz")
  c_LONGEST_WORD : CstT mg "LONGEST_WORD" (.int 8)
  c_LONGEST_NUMBER : CstT mg "LONGEST_NUMBER" (.int 3)
  c_KEYWORDS : TupT K mg "KEYWORDS" [.str "wrap", .str "add", .str "copy", .str "swap", .str "emit"]
  c_REGISTERS : TupT K mg "REGISTERS" [.str "p", .str "q", .str "r", .str "s"]
  c_SIGNS : TupT K mg "SIGNS" [.str "->", .str ":", .str ",", .str ";", .str "?"]
  c_MOST_DEPTH : CstT mg "MOST_DEPTH" (.int 9)
  c_ADD : CstT mg "ADD" (.int 0)
  c_COPY : CstT mg "COPY" (.int 1)
  c_EMIT_LETTER : CstT mg "EMIT_LETTER" (.int 3)
  c_EMIT_NUMBER : CstT mg "EMIT_NUMBER" (.int 4)
  c_SWAP : CstT mg "SWAP" (.int 2)
  c_PUT_CHOICE : CstT mg "PUT_CHOICE" (.int 2)
  c_PUT_LETTER : CstT mg "PUT_LETTER" (.int 1)
  c_PUT_NUMBER : CstT mg "PUT_NUMBER" (.int 0)
  c_MOST_ACTIONS : CstT mg "MOST_ACTIONS" (.int 6)
  c_MOST_CARDS : CstT mg "MOST_CARDS" (.int 8)
  c_LEAST_WRAP : CstT mg "LEAST_WRAP" (.int 2)
  c_MOST_WRAP : CstT mg "MOST_WRAP" (.int 16)
  b_len : mg "len" = none
  b_abs : mg "abs" = none
  b_list : mg "list" = none
  b_min : mg "min" = none
  b_range : mg "range" = none
  b_int : mg "int" = none
  b_str : mg "str" = none
  b_enumerate : mg "enumerate" = none
  b_tuple : mg "tuple" = none
  b_isinstance : mg "isinstance" = none
  b_all : mg "all" = none
  b_bool : mg "bool" = none
  b_sum : mg "sum" = none
  b_max : mg "max" = none
local macro_rules | `(tactic| walk_at "od") => `(tactic| first
  | exact od_addI | exact od_sub | exact od_lt | exact od_le | exact od_gt | exact od_ge | exact od_eqI | exact od_eqS | exact od_neI | exact od_neS | exact od_isN | exact od_notN
  | exact od_mulI (by first | exact .inr ⟨by omega, by omega⟩ | exact .inl ⟨by omega, by omega⟩)
  | (apply od_addSh; (walk_at "sh"); (walk_at "sh"); decide +kernel)
  | exact od_ixS (by decide) (reg_at (by first | assumption | omega))
  | exact od_mod (by omega) | exact od_div ⟨by omega, by omega⟩
  | exact od_ixM (j := 0) (i := 0) rfl rfl | exact od_ixM (j := 1) (i := 0) rfl rfl | exact od_ixM (j := 0) (i := 1) rfl rfl | exact od_ixM (j := 1) (i := 1) rfl rfl
  | exact od_ixT (j := 0) rfl | exact od_ixT (j := 1) rfl | exact od_ixL (j := 0) rfl | exact od_ixL (j := 1) rfl)
local macro_rules | `(tactic| walk_at "cd") => `(tactic| first
  | exact cd_lenL | exact cd_lenT | exact cd_lenM (i := 0) rfl | exact cd_lenM (i := 1) rfl | exact cd_min | exact cd_max | exact cd_abs | exact cd_intB | exact cd_str (by omega))
local macro_rules | `(tactic| walk_at "sh") => `(tactic| first
  | assumption | (refine sh_app ?_ ?_ <;> (walk_at "sh")) | (refine num_le ?_; omega) | exact Nat.le_refl _)
local macro_rules | `(tactic| walk_at "ev") => `(tactic| first
  | exact ed_int | exact ed_str | exact ed_bl | exact ed_non
  | exact ed_var rfl
  | (apply ed_op; (walk_at "ev"); (walk_at "ev"); (walk_at "od"))
  | (apply ed_cb; (walk_at "ea"); (walk_at "cd"))
  | (apply ed_tup; (walk_at "ea"); exact Nat.le_of_ble_eq_true rfl)
  | (apply ed_lst; (walk_at "ea"); exact Nat.le_of_ble_eq_true rfl))
local macro_rules | `(tactic| walk_at "ea") => `(tactic| first
  | exact ea_nil | (apply ea_cons; (walk_at "ev"); (walk_at "ea")))
local macro_rules | `(tactic| walk_at "et") => `(tactic| first
  | (apply et_cmp; (walk_at "ev"))
  | (apply et_and; (walk_at "et"); intro _; (walk_at "et"))
  | (apply et_or; (walk_at "et"); intro _; (walk_at "et"))
  | (apply et_not; (walk_at "et")))
local macro_rules | `(tactic| walk_at "if") => `(tactic| (apply ws_if; apply wt_pure; (walk_at "et"); refine ⟨?_, ?_⟩))
local macro_rules | `(tactic| walk_at "ret") => `(tactic| (apply ws_ret; apply wx_pure; (walk_at "ev")))
local macro_rules | `(tactic| walk_at "set") => `(tactic| (apply ws_asg; apply wx_pure; (walk_at "ev")))
local macro_rules | `(tactic| walk_at "next") => `(tactic| exact ⟨[], _, rfl, rfl, ‹_›⟩)
local macro_rules | `(tactic| walk_at "nrm") => `(tactic| (try simp only [gs, List.map_cons, List.map_nil, List.length_cons, List.length_nil, List.cons_append, List.nil_append, List.set_cons_zero, List.set_cons_succ, List.replicate, Nat.reduceAdd, Nat.reduceSub]))
section
variable {P : Program} {w : World} {K : PySem.W.Frag} {mg : Str → Option Value} {base : Heap} {a : Ads}
abbrev s_below : Stmt := top 50
abbrev N_below : List Str := ["_law_d", "_law_limit", "_law_result"]
theorem sc_below : FnScope N_below ["_law_d", "_law_limit"] (defScope s_below) := ⟨rfl, rfl, rfl, by decide +kernel, rfl, by decide +kernel, by decide +kernel⟩

theorem c_below (T : Txt K mg a) : Cal P w K mg base 1 "_law_below" ["_law_d", "_law_limit"] (spD K 2 S_below) := by
  refine T.d_below.cal fun f fd Fn => Fn.ok sc_below (fun vs H Q E h => spD_len h) (fun cdv A outer s H vs Q E HR h => ⟨_, (pss_cons (ps_if (PW.pt (pw_and (pt_cmpR (op_eqG (K := K) rfl HR.units) (pe_ix (ix_G (K := K) rfl) (pv 0) pe_int (fun _ _ => rfl)) pe_int (nomark _)) (pw_and1 (pt_cmpR op_gtG (pe_callB (call_lenG (K := K) rfl) rfl T.b_len (by decide +kernel) (pa_cons (pv 0) pa_nil)) pe_int (nomark _))))) (pss_one (ps_asg (pe_bm PySem.F.plainAttrs_list PySem.F.slot_list_pop PySem.F.type_list_pop mt_popAt (pv 0) (pa_cons pe_int pa_nil)) (pg_sub (pv 0) pe_int set_list))) pss_nil)
        (pss_cons (ps_if (pt_cmpR op_gtG (pe_ix (ix_G (K := K) rfl) (pv 0) pe_int (fun _ _ => rfl)) pe_int (nomark _)) (pss_cons (ps_set (i := 2) sc_below.nd rfl (Or.inl rfl) (pe_op op_modG (pe_ix (ix_G (K := K) rfl) (pv 0) pe_int (fun _ _ => rfl)) (pv 1)))
        (pss_cons (ps_asg (pe_op op_divG (pe_ix (ix_G (K := K) rfl) (pv 0) pe_int (fun _ _ => rfl)) (pv 1)) (pg_sub (pv 0) pe_int set_list))
        (pss_one (ps_ret (pv 2))))) pss_nil)
        (pss_cons (ps_asg (pe_op op_modG (pe_op (op_addG (K := K) rfl) (pe_op (op_mulGG (K := K) rfl) (pe_ix (ix_G (K := K) rfl) (pv 0) pe_int (fun _ _ => rfl)) pe_int) pe_int) pe_int) (pg_sub (pv 0) pe_int set_list))
        (pss_one (ps_ret (pe_op op_modG (pe_op op_divG (pe_ix (ix_G (K := K) rfl) (pv 0) pe_int (fun _ _ => rfl)) pe_int) (pv 1))))))), body h (by decide) fun F M ds R hS hl => ?_⟩)
  obtain ⟨r, l, n, rfl, rfl, ⟨s0, e0, rs, rfl, h1, h2, h3, h4, h5⟩, h6, h7, k⟩ := hS
  try dsimp only [cxOf, Cx.nox, Cx.wish]
  refine ws_cut (fun Γ' M' => Γ' = gs N_below [Dv.adr r, Dv.int n] ∧ ∃ (e1 : Int) (rs1 : List Int), M' = [(r, rl (s0 :: e1 :: rs1))] ∧ 0 ≤ e1 ∧ (∀ x ∈ rs1, 1 ≤ x) ∧ rs1.length ≤ 100) ?_ ?_
  · walk_at "if"
    · intro hb
      cases rs with
      | nil => simp at hb
      | cons x rs =>
        refine ws_setL (p := r) (wx_popAt (p := r) (by walk_at "ev") ⟨_, List.mem_singleton.mpr rfl⟩ (wx_pure ed_int ⟨0, _, 2, .int x, rfl, rfl, rfl, by simp at h5 ⊢; omega, by walk_at "ev", 0, _, 1, rfl, ed_int, by simp, rfl, x, rs, rfl, ?_, ?_, ?_⟩))
        · have := h4 x (List.mem_cons_self ..)
          omega
        · exact fun y hy => h4 y (List.mem_cons_of_mem _ hy)
        · simp at h5 ⊢; omega
    · intro hb
      exact ws_next ⟨rfl, e0, rs, rfl, h3, h4, h5⟩
  · rintro Γ' M' ⟨rfl, e1, rs1, rfl, h3, h4, h5⟩
    refine ws_seq ?_
    walk_at "if"
    · intro hb
      refine ws_seq ?_
      walk_at "set"
      refine ws_seq ?_
      refine ws_setL (p := r) (wx_pure (by walk_at "ev") ⟨by walk_at "ev", 0, _, 1, rfl, ed_int, by simp, ?_⟩)
      walk_at "ret"
      refine ⟨[], _, rfl, rfl, k (e1 % n) (s0 :: e1 / n :: rs1) (Int.emod_nonneg _ (by omega)) (Int.emod_lt_of_pos _ h6) ⟨s0, _, _, rfl, h1, h2, Int.ediv_nonneg h3 (by omega), h4, h5⟩⟩
    · intro hb
      apply ws_next
      refine ws_seq ?_
      refine ws_setL (p := r) (wx_pure (by walk_at "ev") ⟨by walk_at "ev", 0, _, 0, rfl, ed_int, by simp, ?_⟩)
      walk_at "ret"
      refine ⟨[], _, rfl, rfl, k _ ((s0 * 48271 + 11) % 2147483647 :: e1 :: rs1) (Int.emod_nonneg _ (by omega)) (Int.emod_lt_of_pos _ h6) ⟨_, _, _, rfl, by omega, by omega, h3, h4, h5⟩⟩
abbrev s_random : Stmt := top 49
abbrev N_random : List Str := ["_law_script", "_law_salt", "_law_seed", "_law_cell"]
theorem sc_random : FnScope N_random ["_law_script", "_law_salt"] (defScope s_random) := ⟨rfl, rfl, rfl, by decide +kernel, rfl, by decide +kernel, by decide +kernel⟩

theorem c_random (T : Txt K mg a) : Cal P w K mg base 1 "_law_random" ["_law_script", "_law_salt"] (spD K 2 S_random) := by
  refine T.d_random.cal fun f fd Fn => Fn.ok sc_random (fun vs H Q E h => spD_len h) (fun cdv A outer s H vs Q E HR h => ⟨_, (pss_cons (ps_set (i := 2) sc_random.nd rfl (Or.inl rfl) (pv 1))
        (pss_cons (ps_for PassesOwn.never rfl (pi_list (pv 0)) (pg_name (i := 3) sc_random.nd rfl (Or.inl rfl)) (pss_one (ps_set (i := 2) sc_random.nd rfl (Or.inl rfl) (pe_op op_modG (pe_op (op_addG (K := K) rfl) (pe_op (op_mulGG (K := K) rfl) (pv 2) pe_int) (pe_callB call_absG rfl T.b_abs (by decide +kernel) (pa_cons (pv 3) pa_nil))) pe_int))))
        (pss_one (ps_ret (pe_op (op_addG (K := K) rfl) (pe_lst (pa_cons (pv 2) (pa_cons pe_int pa_nil))) (pe_lc (own := [("_law_cell", 3)]) (g := (gName 3)) (tt := _) rfl sc_random.nd (pi_list (pv 0)) (blkOk_by (N := N_random) (sc := defScope s_random) (by decide +kernel)) (fun _ _ _ _ _ => (pg_name (i := 3) sc_random.nd rfl (Or.inl rfl))) (fun _ _ _ _ _ => pts_one (pt_cmpR op_geG (pv 3) (pe_op op_powG pe_int pe_int) (nomark _))) (fun _ _ _ _ _ => (pv 3)))))))), body h (by decide) fun F M ds R hS hl => ?_⟩)
  obtain ⟨ns, s0, rfl, rfl, h1, h2, h3, k⟩ := hS
  try dsimp only [cxOf, Cx.nox, Cx.wish]
  refine ws_seq ?_
  walk_at "set"
  refine ws_cut (fun Γ' M' => M' = [] ∧ ∃ s1 c, Γ' = ((gs N_random [.sql (ns.map .int), .int s0]).set 2 (some (.int s1))).set 3 c ∧ 0 ≤ s1 ∧ s1 < 2147483647) ?_ ?_
  · refine ws_forL (wx_pure (by walk_at "ev") ⟨_, .inr rfl, fun _ Γ' M' => M' = [] ∧ ∃ s1 c, Γ' = ((gs N_random [.sql (ns.map .int), .int s0]).set 2 (some (.int s1))).set 3 c ∧ 0 ≤ s1 ∧ s1 < 2147483647, ⟨rfl, s0, none, rfl, h2, h3⟩, ?_, fun _ _ h => h⟩)
    rintro i e Γ' M' he ⟨rfl, s1, c, rfl, h4, h5⟩
    rw [List.getElem?_map] at he
    cases hn : ns[i]? with
    | none => rw [hn] at he; cases he
    | some v =>
      rw [hn] at he
      cases he
      refine ⟨_, tg_name, ?_⟩
      walk_at "set"
      refine ⟨rfl, _, some (.int v), rfl, Int.emod_nonneg _ (by decide), Int.emod_lt_of_pos _ (by decide)⟩
  · rintro Γ' M' ⟨rfl, s1, c, rfl, h4, h5⟩
    refine ws_ret (wx_new (ds := ([s1, 0] ++ ns.filter fun v => decide (10 ^ 18 ≤ v)).map Dv.int) ?_ fun p hp => ⟨[(p, _)], [], rfl, rfl, k p _ ⟨s1, 0, _, rfl, h4, h5, by decide, fun x hx => ?_, ?_⟩⟩)
    · have hfl : ∀ (l : List Int), (l.map Dv.int).filter (fun d => match d with | .int v => decide (10 ^ 18 ≤ v) | _ => false) = (l.filter fun v => decide (10 ^ 18 ≤ v)).map Dv.int := fun l => by
        induction l with
        | nil => rfl
        | cons x l ih =>
          rw [List.map_cons, List.filter_cons, List.filter_cons, ih]
          show (if decide (10 ^ 18 ≤ x) = true then _ else _) = _
          split <;> rfl
      rw [List.map_append]
      refine en_addL (i := [.int s1, .int 0]) (by walk_at "ev") (ed_new (ds := (ns.filter fun v => decide (10 ^ 18 ≤ v)).map Dv.int) ?_) ?_
      · have := en_lcL (K := K) (F := F) (M := []) (tl := tVar 0) (Γ := ((gs N_random [.sql (ns.map .int), .int s0]).set 2 (some (.int s1))).set 3 c) (j := 3) (ds := ns.map Dv.int) (te := tVar 3) (t := tTest (tOp rGeI (tVar 3) (tOp rPowI (tC (.int 10)) (tC (.int 18))))) (fun d => match d with | .int v => decide (10 ^ 18 ≤ v) | _ => false) id (ed_var rfl) (.inr rfl) (by rw [List.length_map]; omega) (fun i e he Dl => ?_) (fun i e he _ Dl => ed_var rfl)
        · rw [hfl, List.map_id] at this
          exact this
        · rw [List.getElem?_map] at he
          cases hn : ns[i]? with
          | none => rw [hn] at he; cases he
          | some v =>
            rw [hn] at he
            cases he
            exact et_cmp (ed_op (ed_var rfl) (ed_op ed_int ed_int (od_pow ⟨by decide, by decide, by decide⟩)) od_ge)
      · have := List.length_filter_le (fun v => decide (10 ^ 18 ≤ v)) ns
        rw [List.length_map]
        show 2 + _ ≤ _
        omega
    · have := (List.mem_filter.mp hx).2
      have := of_decide_eq_true this
      have : (1 : Int) ≤ 10 ^ 18 := by decide
      omega
    · have := List.length_filter_le (fun v => decide (10 ^ 18 ≤ v)) ns
      show (ns.filter _).length ≤ 100
      omega
abbrev s_shuffled : Stmt := top 51
abbrev N_shuffled : List Str := ["_law_d", "_law_items", "_law_pool", "_law_result"]
theorem sc_shuffled : FnScope N_shuffled ["_law_d", "_law_items"] (defScope s_shuffled) := ⟨rfl, rfl, rfl, by decide +kernel, rfl, by decide +kernel, by decide +kernel⟩

theorem c_shuffled (T : Txt K mg a) : Cal P w K mg base 2 "_law_shuffled" ["_law_d", "_law_items"] (spD K 2 S_shuffled) := by
  have C_below := c_below (P := P) (w := w) (base := base) T
  refine T.d_shuffled.cal fun f fd Fn => Fn.ok sc_shuffled (fun vs H Q E h => spD_len h) (fun cdv A outer s H vs Q E HR h => ⟨_, (pss_cons (ps_set (i := 2) sc_shuffled.nd rfl (Or.inl rfl) (pe_callTy (call_listG (K := K) rfl) rfl T.b_list (by decide +kernel) (pa_cons (pv 1) pa_nil)))
        (pss_cons (ps_set (i := 3) sc_shuffled.nd rfl (Or.inl rfl) (pe_lst pa_nil))
        (pss_cons (ps_while PassesOwn.never (pt_cmpR (op_neG (K := K) rfl HR.units) (pv 2) (pe_lst pa_nil) (nomark _)) (pss_one (ps_expr (pe_bm PySem.F.plainAttrs_list PySem.F.slot_list_append PySem.F.type_list_append mt_append (pv 3) (pa_cons (pe_bm PySem.F.plainAttrs_list PySem.F.slot_list_pop PySem.F.type_list_pop mt_popAt (pv 2) (pa_cons (pe_cal C_below (HR.mono (by decide)) rfl (pa_cons (pv 0) (pa_cons (pe_callB (call_lenG (K := K) rfl) rfl T.b_len (by decide +kernel) (pa_cons (pv 2) pa_nil)) pa_nil))) pa_nil)) pa_nil)))))
        (pss_one (ps_ret (pv 3)))))), body h (by decide) fun F M ds R hS hl => ?_⟩)
  obtain ⟨r, l, xs, n, rfl, rfl, h1, h2, h3, h4, k⟩ := hS
  try dsimp only [cxOf, Cx.nox, Cx.wish]
  refine ws_seq (ws_new (en_list (ds := xs) (by walk_at "ea") (.inl rfl)) fun p hp => ?_)
  refine ws_seq (ws_new (en_lst ea_nil (Nat.zero_le _)) fun p2 hp2 => ?_)
  refine ws_cut (fun Γ' M' => Γ' = ((gs N_shuffled [.adr r, .lst xs]).set 2 (some (.adr p))).set 3 (some (.adr p2)) ∧ ∃ re l', M' = [(p2, .lst re), (p, .lst []), (r, rl l')] ∧ Rnd l' ∧ re.Perm xs) ?_ ?_
  · refine ws_while (fun m Γ' M' => Γ' = ((gs N_shuffled [.adr r, .lst xs]).set 2 (some (.adr p))).set 3 (some (.adr p2)) ∧ ∃ po re l', M' = [(p2, .lst re), (p, .lst po), (r, rl l')] ∧ Rnd l' ∧ (re ++ po).Perm xs ∧ m = po.length) xs.length ⟨rfl, xs, [], l, rfl, h1, .refl _, rfl⟩ ?_
    rintro m Γ' M' ⟨rfl, po, re, l', rfl, h5, h6, rfl⟩
    have hlen : re.length + po.length ≤ 100 := by
      have := h6.length_eq
      rw [List.length_append] at this
      omega
    refine wt_pure (et_cmp (ed_op (ed_var rfl) (ed_lst ea_nil (Nat.zero_le _)) (od_neM0 1 rfl (fun e he => h3 e (h6.mem_iff.mp (List.mem_append_right _ he))) h4))) ⟨fun hb => ?_, fun hb => ?_⟩
    · have hpos : 0 < po.length := by
        cases po with
        | nil => simp at hb
        | cons _ _ => simp
      refine ws_app (ed_var rfl) ⟨_, List.mem_cons_self ..⟩ (wx_popAt (p := p) (ed_var rfl) ⟨_, List.mem_cons_of_mem _ (List.mem_cons_self ..)⟩ ?_)
      refine wx_belowN (n := (po.length : Int)) 2 (ed_var rfl) (ed_cb (ea_cons (ed_var rfl) ea_nil) (cd_lenM (i := 1) rfl)) rfl h5 (by omega) (by omega) fun j l2 a b c => ?_
      obtain ⟨j, rfl⟩ := nat_of a
      have hj : j < po.length := by omega
      refine ⟨1, po, j, po[j], rfl, rfl, by simp, by omega, 0, re, rfl, by omega, ?_⟩
      refine ⟨(po.eraseIdx j).length, by rw [List.length_eraseIdx]; simp [hj]; omega, rfl, po.eraseIdx j, re ++ [po[j]], l2, rfl, c, ?_, rfl⟩
      refine List.Perm.trans ?_ h6
      rw [List.append_assoc]
      refine List.Perm.append_left _ ?_
      show (po[j] :: po.eraseIdx j).Perm po
      exact erase_perm po j _ (by simp)
    · have : po = [] := by
        cases po with
        | nil => rfl
        | cons _ _ => simp at hb
      subst this
      rw [List.append_nil] at h6
      exact ⟨rfl, re, l', rfl, h5, h6⟩
  · rintro Γ' M' ⟨rfl, re, l', rfl, h5, h6⟩
    refine ws_ret (wx_drp (wx_frz (wx_pure (ed_var rfl) ⟨p2, re, _, rfl, rfl, ?_, _, _, rfl, [], _, rfl, rfl, k re l' h6 h5⟩)))
    exact fun z => hp2 (List.mem_append_left _ (List.mem_cons_of_mem _ z))
abbrev s_action : Stmt := top 52
abbrev N_action : List Str := ["_law_d", "_law_wrap", "_law_kind", "_law_slot"]
theorem sc_action : FnScope N_action ["_law_d", "_law_wrap"] (defScope s_action) := ⟨rfl, rfl, rfl, by decide +kernel, rfl, by decide +kernel, by decide +kernel⟩

theorem c_action (T : Txt K mg a) : Cal P w K mg base 2 "_law_action" ["_law_d", "_law_wrap"] (spD K 2 S_action) := by
  have C_below := c_below (P := P) (w := w) (base := base) T
  refine T.d_action.cal fun f fd Fn => Fn.ok sc_action (fun vs H Q E h => spD_len h) (fun cdv A outer s H vs Q E HR h => ⟨_, (pss_cons (ps_par (i := 2) (j := 3) rfl sc_action.nd rfl rfl (by decide) rfl rfl (pa_cons (pe_cal C_below (HR.mono (by decide)) rfl (pa_cons (pv 0) (pa_cons pe_int pa_nil))) (pa_cons (pe_cal C_below (HR.mono (by decide)) rfl (pa_cons (pv 0) (pa_cons (pe_ix (ix_G (K := K) rfl) (pe_lst (pa_cons pe_int (pa_cons pe_int pa_nil))) (pe_cal C_below (HR.mono (by decide)) rfl (pa_cons (pv 0) (pa_cons pe_int pa_nil))) (fun _ _ => rfl)) pa_nil))) pa_nil)) (by rfl))
        (pss_cons (ps_if (pt_cmpR op_ltG (pv 2) pe_int (nomark _)) (pss_one (ps_ret (pe_tupF (pa_cons pe_str (pa_cons (pv 3) (pa_cons (pe_cal C_below (HR.mono (by decide)) rfl (pa_cons (pv 0) (pa_cons (pv 1) pa_nil))) pa_nil)))))) pss_nil)
        (pss_cons (ps_if (pt_cmpR op_ltG (pv 2) pe_int (nomark _)) (pss_one (ps_ret (pe_tupF (pa_cons (pe_ix (ix_G (K := K) rfl) (pe_lst (pa_cons pe_str (pa_cons pe_str pa_nil))) (pe_op op_subG (pv 2) pe_int) (fun _ _ => rfl)) (pa_cons (pv 3) (pa_cons (pe_cal C_below (HR.mono (by decide)) rfl (pa_cons (pv 0) (pa_cons (pe_ix (ix_G (K := K) rfl) (pe_lst (pa_cons pe_int (pa_cons pe_int pa_nil))) (pe_cal C_below (HR.mono (by decide)) rfl (pa_cons (pv 0) (pa_cons pe_int pa_nil))) (fun _ _ => rfl)) pa_nil))) pa_nil)))))) pss_nil)
        (pss_one (ps_ret (pe_ifExp (pt_cmpR (op_eqG (K := K) rfl HR.units) (pv 2) pe_int (nomark _)) (pe_tupF (pa_cons pe_str (pa_cons (pv 3) (pa_cons pe_int pa_nil)))) (pe_tupF (pa_cons pe_str (pa_cons pe_non (pa_cons (pe_cal C_below (HR.mono (by decide)) rfl (pa_cons (pv 0) (pa_cons (pv 1) pa_nil))) pa_nil)))))))))), body h (by decide) fun F M ds R hS hl => ?_⟩)
  obtain ⟨r, l, w, rfl, rfl, h1, h2, h3, k⟩ := hS
  try dsimp only [cxOf, Cx.nox, Cx.wish]
  refine ws_seq (ws_par (wa_cons (wx_belowN 0 (ed_var rfl) ed_int rfl h1 (by decide) (by decide) fun a l1 a0 a1 h1 => wa_cons (wx_slot 0 (fun _ => ed_var rfl) rfl h1 fun j l2 hj h1 => wa_nil ⟨_, _, rfl, ?_⟩))))
  obtain ⟨a, rfl⟩ := nat_of a0
  refine ws_seq ?_
  walk_at "if"
  · intro hb
    refine ws_ret (wx_tup (wa_cons (wx_pure ed_str (wa_cons (wx_pure (ed_var rfl) (wa_cons (wx_belowN 0 (ed_var rfl) (ed_var rfl) rfl h1 (by omega) (by omega) fun b l3 b0 b1 h1 => wa_nil ⟨Nat.le_of_ble_eq_true rfl, ?_⟩)))))))
    obtain ⟨b, rfl⟩ := nat_of b0
    exact ⟨[], _, rfl, rfl, k (.add j b) l3 ⟨hj, by omega⟩ h1⟩
  · intro hb
    refine ws_next (ws_seq ?_)
    have ha : 2 ≤ a := by
      have := of_decide_eq_false hb
      omega
    walk_at "if"
    · intro hb2
      have ha2 : a < 4 := by
        have := of_decide_eq_true hb2
        omega
      have hc : a = 2 ∨ a = 3 := by omega
      refine ws_ret (wx_tup (wa_cons (wx_pure (d := .str (if a = 2 then "copy" else "swap")) ?_ (wa_cons (wx_pure (ed_var rfl) (wa_cons (wx_slot 0 (fun _ => ed_var rfl) rfl h1 fun b l3 hb3 h1 => wa_nil ⟨Nat.le_of_ble_eq_true rfl, ?_⟩)))))))
      · rcases hc with rfl | rfl
        · exact ed_op (ed_lst (ea_cons ed_str (ea_cons ed_str ea_nil)) (Nat.le_of_ble_eq_true rfl)) (ed_op (ed_var rfl) ed_int od_sub) (od_ixL (j := 0) rfl)
        · exact ed_op (ed_lst (ea_cons ed_str (ea_cons ed_str ea_nil)) (Nat.le_of_ble_eq_true rfl)) (ed_op (ed_var rfl) ed_int od_sub) (od_ixL (j := 1) rfl)
      · rcases hc with rfl | rfl
        · exact ⟨[], _, rfl, rfl, k (.copy j b) l3 ⟨hj, hb3⟩ h1⟩
        · exact ⟨[], _, rfl, rfl, k (.swap j b) l3 ⟨hj, hb3⟩ h1⟩
    · intro hb2
      refine ws_next (ws_ret (wx_if (wt_pure (by walk_at "et") ⟨fun hb3 => ?_, fun hb3 => ?_⟩)))
      · exact wx_pure (by walk_at "ev") ⟨[], _, rfl, rfl, k (.emr j) l2 hj h1⟩
      · refine wx_tup (wa_cons (wx_pure ed_str (wa_cons (wx_pure ed_non (wa_cons (wx_belowN 0 (ed_var rfl) (ed_var rfl) rfl h1 (by omega) (by omega) fun b l3 b0 b1 h1 => wa_nil ⟨Nat.le_of_ble_eq_true rfl, ?_⟩))))))
        obtain ⟨b, rfl⟩ := nat_of b0
        refine ⟨[], _, rfl, rfl, k (.emn b) l3 (by show b < w; omega) h1⟩
abbrev s_put : Stmt := top 53
abbrev N_put : List Str := ["_law_d", "_law_many", "_law_kind", "_law_slot", "_law_depths", "_law_k", "_law_depth"]
theorem sc_put : FnScope N_put ["_law_d", "_law_many"] (defScope s_put) := ⟨rfl, rfl, rfl, by decide +kernel, rfl, by decide +kernel, by decide +kernel⟩

theorem c_put (T : Txt K mg a) : Cal P w K mg base 2 "_law_put" ["_law_d", "_law_many"] (spD K 2 S_put) := by
  have C_below := c_below (P := P) (w := w) (base := base) T
  refine T.d_put.cal fun f fd Fn => Fn.ok sc_put (fun vs H Q E h => spD_len h) (fun cdv A outer s H vs Q E HR h => ⟨_, (pss_cons (ps_par (i := 2) (j := 3) rfl sc_put.nd rfl rfl (by decide) rfl rfl (pa_cons (pe_cal C_below (HR.mono (by decide)) rfl (pa_cons (pv 0) (pa_cons pe_int pa_nil))) (pa_cons (pe_cal C_below (HR.mono (by decide)) rfl (pa_cons (pv 0) (pa_cons (pe_ix (ix_G (K := K) rfl) (pe_lst (pa_cons pe_int (pa_cons pe_int pa_nil))) (pe_cal C_below (HR.mono (by decide)) rfl (pa_cons (pv 0) (pa_cons pe_int pa_nil))) (fun _ _ => rfl)) pa_nil))) pa_nil)) (by rfl))
        (pss_cons (ps_setLc (own := [("_law_k", 5)]) (g := (gName 5)) (tt := tYes) (i := 4) rfl sc_put.nd rfl rfl (sw_true rfl rfl rfl (by decide +kernel)) (pi_range1 rfl T.b_range (pa_cons pe_int pa_nil)) (blkOk_by (N := N_put) (sc := defScope s_put) (by decide +kernel)) (fun _ _ _ _ _ => (pg_name (i := 5) sc_put.nd rfl (Or.inl rfl))) (fun _ _ _ _ _ => pts_nil) (fun _ _ _ _ _ => (pe_cal C_below (HR.mono (by decide)) rfl (pa_cons (pv 0) (pa_cons (pe_ix (ix_G (K := K) rfl) (pe_lst (pa_cons (pv 1) (pa_cons (pe_op (op_addG (K := K) rfl) (pv 1) pe_int) (pa_cons pe_int pa_nil)))) (pe_cal C_below (HR.mono (by decide)) rfl (pa_cons (pv 0) (pa_cons pe_int pa_nil))) (fun _ _ => rfl)) pa_nil)))))
        (pss_cons (ps_setLc (own := [("_law_depth", 6)]) (g := (gName 6)) (tt := tYes) (i := 4) rfl sc_put.nd rfl rfl (sw_true rfl rfl rfl (by decide +kernel)) (pi_list (pv 4)) (blkOk_by (N := N_put) (sc := defScope s_put) (by decide +kernel)) (fun _ _ _ _ _ => (pg_name (i := 6) sc_put.nd rfl (Or.inl rfl))) (fun _ _ _ _ _ => pts_nil) (fun _ _ _ _ _ => (pe_callB (call_minG rfl) rfl T.b_min (by decide +kernel) (pa_cons pe_int (pa_cons (pv 6) pa_nil)))))
        (pss_cons (ps_if (pt_cmpR op_ltG (pv 2) pe_int (nomark _)) (pss_one (ps_ret (pe_tupF (pa_cons pe_non (pa_cons (pe_ix (ix_G (K := K) rfl) (pv 4) pe_int (fun _ _ => rfl)) (pa_cons (pe_ix (ix_G (K := K) rfl) (pv 4) pe_int (fun _ _ => rfl)) pa_nil)))))) pss_nil)
        (pss_one (ps_ret (pe_ifExp (pt_cmpR (op_eqG (K := K) rfl HR.units) (pv 2) pe_int (nomark _)) (pe_tupF (pa_cons (pv 3) (pa_cons pe_int (pa_cons pe_non pa_nil)))) (pe_tupF (pa_cons (pv 3) (pa_cons (pe_ix (ix_G (K := K) rfl) (pv 4) pe_int (fun _ _ => rfl)) (pa_cons (pe_ix (ix_G (K := K) rfl) (pv 4) pe_int (fun _ _ => rfl)) pa_nil))))))))))), body h (by decide) fun F M ds R hS hl => ?_⟩)
  obtain ⟨r, l, m, rfl, rfl, h1, h2, h3, k⟩ := hS
  try dsimp only [cxOf, Cx.nox, Cx.wish]
  refine ws_seq (ws_par (wa_cons (wx_belowN 0 (ed_var rfl) ed_int rfl h1 (by decide) (by decide) fun a l1 a0 a1 h1 => wa_cons (wx_slot 0 (fun _ => ed_var rfl) rfl h1 fun j l2 hj h1 => wa_nil ⟨_, _, rfl, ?_⟩))))
  obtain ⟨a, rfl⟩ := nat_of a0
  refine ws_seq (ws_asg (wx_frz (wx_lcR (wa_pure (ea_cons ed_int ea_nil) ⟨2, rfl, by decide, by decide, fun i acc M' => ∃ (ls : List Nat) (l' : List Int), acc = ls.map (fun n => Dv.int (n : Nat)) ∧ ls.length = i ∧ (∀ x ∈ ls, x ≤ 9) ∧ M' = [(r, rl l')] ∧ Rnd l', ⟨[], l2, rfl, rfl, fun _ h => (nomatch h), rfl, h1⟩, fun i hi => ?_, ?_⟩))))
  · rintro acc M' ⟨ls, l', rfl, rfl, h9, rfl, h1⟩
    refine ⟨by rw [List.length_map]; omega, fun Dl => wt_pure et_yes ⟨_, rfl, fun _ => ⟨by rw [List.length_map]; omega, ?_⟩, fun h => (nomatch h)⟩⟩
    refine wx_below (l := l') 1 (ed_var rfl) (wx_pick 1 (ds := [.int m, .int (m + 1 : Nat), .int 10]) (by walk_at "ev") (ed_var rfl) ed_int rfl rfl h1 (by simp) (by simp) fun jj e l3 hjj h1 => ?_)
    have main : ∀ n : Nat, e = .int n → 1 ≤ n → n ≤ 10 → ∃ n' l'', e = .int n' ∧ ([(Dl, Mv.lst (ls.map fun n => Dv.int (n : Nat))), (r, rl l3)] : Mu)[1]? = some (r, rl l'') ∧ Rnd l'' ∧ 0 < n' ∧ n' < 1073741824 ∧ ∀ k l4, 0 ≤ k → k < n' → Rnd l4 → ∃ M5, [(Dl, Mv.lst (ls.map fun n => Dv.int (n : Nat))), (r, rl l4)] = (Dl, Mv.lst (ls.map fun n => Dv.int (n : Nat))) :: M5 ∧ ∃ (ls' : List Nat) (l' : List Int), (ls.map fun n => Dv.int (n : Nat)) ++ [Dv.int k] = ls'.map (fun n => Dv.int (n : Nat)) ∧ ls'.length = ls.length + 1 ∧ (∀ x ∈ ls', x ≤ 9) ∧ M5 = [(r, rl l')] ∧ Rnd l' := fun n he hn1 hn2 => by
      refine ⟨n, l3, he, rfl, h1, by omega, by omega, fun k l4 k0 k1 hl4 => ?_⟩
      obtain ⟨k, rfl⟩ := nat_of k0
      refine ⟨_, rfl, ls ++ [k], l4, by rw [List.map_append]; rfl, by rw [List.length_append]; rfl, fun x hx => ?_, rfl, hl4⟩
      rcases List.mem_append.mp hx with z | z
      · exact h9 x z
      · have := List.mem_singleton.mp z
        omega
    rcases three_of hjj with e' | e' | e'
    · exact main m e' h2 (by omega)
    · exact main (m + 1) e' (by omega) (by omega)
    · exact main 10 e' (by omega) (by omega)
  · rintro acc M' ⟨ls, l', rfl, hlen, h9, rfl, h1⟩ Dl hD
    refine ⟨Dl, _, _, rfl, rfl, fun z => hD (List.mem_append_left _ z), ?_⟩
    match ls, hlen, h9 with
    | [x, y], _, h9 =>
    have hx : x ≤ 9 := h9 x (List.mem_cons_self ..)
    have hy : y ≤ 9 := h9 y (List.mem_cons_of_mem _ (List.mem_cons_self ..))
    refine ws_seq (ws_asg (wx_pure (d := .lst [.int x, .int y]) ?_ ?_))
    · have := en_lcL (K := K) (F := F) (M := [(r, rl l')]) (tl := tVar 4) (Γ := (((gs N_put [.adr r, .int m]).set 2 (some (.int a))).set 3 (some (.int j))).set 4 (some (.lst [.int x, .int y]))) (j := 6) (ds := [.int x, .int y]) (te := tCB rMin2 (tCons (tC (.int 9)) (tCons (tVar 6) tNil))) (t := tYes) (fun d => true) (fun d => match d with | .int v => .int (if v < 9 then v else 9) | d => d) (ed_var rfl) (.inl rfl) (by simp) (fun i e he Dl => et_yes) (fun i e he _ Dl => ?_)
      · have e1 : (if (x : Int) < 9 then (x : Int) else 9) = x := by split <;> omega
        have e2 : (if (y : Int) < 9 then (y : Int) else 9) = y := by split <;> omega
        have e3 : ([Dv.int x, Dv.int y].filter fun d => true).map (fun d => match d with | .int v => .int (if v < 9 then v else 9) | d => d) = [Dv.int x, Dv.int y] := by
          show [Dv.int (if (x : Int) < 9 then (x : Int) else 9), Dv.int (if (y : Int) < 9 then (y : Int) else 9)] = _
          rw [e1, e2]
        rw [e3] at this
        exact ed_new this
      · rcases two_of he with e' | e'
        · subst e'
          exact ed_cb (ea_cons ed_int (ea_cons (ed_var rfl) ea_nil)) cd_min
        · subst e'
          exact ed_cb (ea_cons ed_int (ea_cons (ed_var rfl) ea_nil)) cd_min
    · refine ws_seq ?_
      walk_at "if"
      · intro hb
        walk_at "ret"
        exact ⟨[], _, rfl, rfl, k (.num x) l' hx h1⟩
      · intro hb
        refine ws_next (ws_ret (wx_if (wt_pure (by walk_at "et") ⟨fun hb3 => ?_, fun hb3 => ?_⟩)))
        · exact wx_pure (by walk_at "ev") ⟨[], _, rfl, rfl, k (.reg j) l' hj h1⟩
        · exact wx_pure (by walk_at "ev") ⟨[], _, rfl, rfl, k (.cho j x y) l' ⟨hj, hx, hy⟩ h1⟩
abbrev s_deck : Stmt := top 54
abbrev N_deck : List Str := ["_law_d", "_law_most", "_law_many", "_law_wrap", "_law_cards", "_law_name", "_law_actions", "_law_k"]
theorem sc_deck : FnScope N_deck ["_law_d", "_law_most"] (defScope s_deck) := ⟨rfl, rfl, rfl, by decide +kernel, rfl, by decide +kernel, by decide +kernel⟩

theorem c_deck (T : Txt K mg a) : Cal P w K mg base 3 "_law_deck" ["_law_d", "_law_most"] (spD K 2 S_deck) := by
  have C_action := c_action (P := P) (w := w) (base := base) T
  have C_below := c_below (P := P) (w := w) (base := base) T
  have C_put := c_put (P := P) (w := w) (base := base) T
  have C_shuffled := c_shuffled (P := P) (w := w) (base := base) T
  refine T.d_deck.cal fun f fd Fn => Fn.ok sc_deck (fun vs H Q E h => spD_len h) (fun cdv A outer s H vs Q E HR h => ⟨_, (pss_cons (ps_set (i := 2) sc_deck.nd rfl (Or.inl rfl) (pe_op (op_addG (K := K) rfl) pe_int (pe_cal C_below (HR.mono (by decide)) rfl (pa_cons (pv 0) (pa_cons (pv 1) pa_nil)))))
        (pss_cons (ps_set (i := 3) sc_deck.nd rfl (Or.inr rfl) (pe_ix (ix_G (K := K) rfl) (pe_lst (pa_cons pe_int (pa_cons pe_int (pa_cons (pe_op (op_addG (K := K) rfl) pe_int (pe_cal C_below (HR.mono (by decide)) rfl (pa_cons (pv 0) (pa_cons pe_int pa_nil)))) pa_nil)))) (pe_cal C_below (HR.mono (by decide)) rfl (pa_cons (pv 0) (pa_cons pe_int pa_nil))) (fun _ _ => rfl)))
        (pss_cons (ps_set (i := 4) sc_deck.nd rfl (Or.inl rfl) (pe_lst pa_nil))
        (pss_cons (ps_for PassesOwn.never rfl (pi_list (pe_slice (sl_G (K := K) rfl) (pe_cal C_shuffled (HR.mono (by decide)) rfl (pa_cons (pv 0) (pa_cons (pe_lst (pa_cons pe_str (pa_cons pe_str (pa_cons pe_str (pa_cons pe_str (pa_cons pe_str (pa_cons pe_str (pa_cons pe_str (pa_cons pe_str pa_nil))))))))) pa_nil))) po_none (po_some (pv 2)))) (pg_name (i := 5) sc_deck.nd rfl (Or.inl rfl)) (pss_cons (ps_setLc (own := [("_law_k", 7)]) (g := (gName 7)) (tt := tYes) (i := 6) rfl sc_deck.nd rfl rfl (sw_true rfl rfl rfl (by decide +kernel)) (pi_range1 rfl T.b_range (pa_cons (pe_cal C_below (HR.mono (by decide)) rfl (pa_cons (pv 0) (pa_cons (pe_ix (ix_G (K := K) rfl) (pe_lst (pa_cons pe_int (pa_cons pe_int pa_nil))) (pe_cal C_below (HR.mono (by decide)) rfl (pa_cons (pv 0) (pa_cons pe_int pa_nil))) (fun _ _ => rfl)) pa_nil))) pa_nil)) (blkOk_by (N := N_deck) (sc := defScope s_deck) (by decide +kernel)) (fun _ _ _ _ _ => (pg_name (i := 7) sc_deck.nd rfl (Or.inl rfl))) (fun _ _ _ _ _ => pts_nil) (fun _ _ _ _ _ => (pe_cal C_action (HR.mono (by decide)) rfl (pa_cons (pv 0) (pa_cons (pv 3) pa_nil)))))
        (pss_one (ps_expr (pe_bm PySem.F.plainAttrs_list PySem.F.slot_list_append PySem.F.type_list_append mt_append (pv 4) (pa_cons (pe_tupF (pa_cons (pv 5) (pa_cons (pv 6) (pa_cons (pe_cal C_put (HR.mono (by decide)) rfl (pa_cons (pv 0) (pa_cons (pv 2) pa_nil))) pa_nil)))) pa_nil))))))
        (pss_one (ps_ret (pe_tupF (pa_cons (pv 3) (pa_cons (pv 4) pa_nil))))))))), body h (by decide) fun F M ds R hS hl => ?_⟩)
  obtain ⟨r, l, m, rfl, rfl, h1, h2, h3, k⟩ := hS
  try dsimp only [cxOf, Cx.nox, Cx.wish]
  refine ws_seq (ws_asg (wx_op (wx_pure ed_int (wx_belowN 0 (ed_var rfl) (ed_var rfl) rfl h1 (by omega) (by omega) fun a l1 a0 a1 h1 => ⟨_, od_addI, ?_⟩))))
  obtain ⟨a, rfl⟩ := nat_of a0
  have ea : (1 : Int) + (a : Int) = ((1 + a : Nat) : Int) := by omega
  rw [ea]
  have ha : 1 + a ≤ m := by omega
  have ha1 : 1 ≤ 1 + a := by omega
  generalize hmany : 1 + a = many at *
  refine ws_seq (ws_asg (wx_op (wx_lst ?_)))
  refine wa_cons (wx_pure ed_int (wa_cons (wx_pure ed_int (wa_cons (wx_op (wx_pure ed_int ?_))))))
  refine wx_belowN (n := 15) 0 (ed_var rfl) ed_int rfl h1 (by decide) (by decide) fun b l2 b0 b1 h1 => ⟨_, od_addI, wa_nil ⟨Nat.le_of_ble_eq_true rfl, ?_⟩⟩
  refine wx_belowN (n := 3) 0 (ed_var rfl) ed_int rfl h1 (by decide) (by decide) fun c l3 c0 c1 h1 => ?_
  obtain ⟨b, rfl⟩ := nat_of b0
  obtain ⟨c, rfl⟩ := nat_of c0
  have hw : ∃ w : Nat, 2 ≤ w ∧ w ≤ 16 ∧ [Dv.int 2, Dv.int 3, Dv.int (2 + (b : Int))][c]? = some (.int w) := by
    have hc : c = 0 ∨ c = 1 ∨ c = 2 := by omega
    rcases hc with rfl | rfl | rfl
    · exact ⟨2, by decide, by decide, rfl⟩
    · exact ⟨3, by decide, by decide, rfl⟩
    · exact ⟨2 + b, by omega, by omega, by show some (Dv.int (2 + (b : Int))) = _; congr 2⟩
  obtain ⟨w, hw1, hw2, hw⟩ := hw
  refine ⟨_, od_ixL hw, ?_⟩
  refine ws_seq (ws_new (en_lst ea_nil (Nat.zero_le _)) fun p hp => ?_)
  have hpr : p ∉ [r] := fun z => hp (List.mem_append_left _ z)
  refine ws_cut (fun Γ' M' => ∃ cs l' c5 c6, Γ' = ((((((gs N_deck [.adr r, .int m]).set 2 (some (.int many))).set 3 (some (.int w))).set 4 (some (.adr p))).set 5 c5).set 6 c6) ∧ M' = [(p, .lst (cs.map eC)), (r, rl l')] ∧ Rnd l' ∧ Dk.ok ⟨w, cs⟩ ∧ DkS ⟨w, cs⟩ m) ?_ ?_
  · refine ws_forL (wx_slL (lo := none) (hi := some (many : Int)) (wx_call1 ?_))
    refine wa_cons (wx_pure (ed_var rfl) (wa_cons (wx_pure (d := .lst (names8.map Dv.str)) (by walk_at "ev") ?_)))
    refine wa_nil ⟨rfl, 1, r, rl l3, rfl, r, l3, names8.map Dv.str, 0, rfl, rfl, h1, by decide, ?_, by decide, fun ys l4 hperm h1 => ⟨[], _, rfl, ys, rfl, eo_none, eo_some (ed_var rfl), _, .inl rfl, ?_⟩⟩
    · intro x hx
      obtain ⟨s, hs, rfl⟩ := List.mem_map.mp hx
      have : ∀ s ∈ names8, PyData.strOk s = true := by decide +kernel
      exact this s hs
    · obtain ⟨ns, rfl, hns⟩ := perm_strs hperm
      rw [cut_take, ← List.map_take]
      have hnd : ns.Nodup := hns.nodup_iff.mpr (by decide +kernel)
      have hlen : ns.length = 8 := by rw [hns.length_eq]; rfl
      have hmany8 : (ns.take many).length = many := by rw [List.length_take]; omega
      refine ⟨fun i Γ' M' => ∃ cs l' c5 c6, Γ' = ((((((gs N_deck [.adr r, .int m]).set 2 (some (.int many))).set 3 (some (.int w))).set 4 (some (.adr p))).set 5 c5).set 6 c6) ∧ M' = [(p, .lst (cs.map eC)), (r, rl l')] ∧ Rnd l' ∧ cs.length = i ∧ cs.map (·.nm) = (ns.take many).take i ∧ ∀ c ∈ cs, c.ok w, ⟨[], l4, none, none, rfl, rfl, h1, rfl, by simp, fun _ h => (nomatch h)⟩, ?_, ?_⟩
      · rintro i e Γ' M' he ⟨cs, l', c5, c6, rfl, rfl, h1, rfl, hnm, hok⟩
        rw [List.getElem?_map] at he
        cases hx : (ns.take many)[cs.length]? with
        | none => rw [hx] at he; cases he
        | some nm =>
        rw [hx] at he
        cases he
        have hi : cs.length < many := by
          have := (List.getElem?_eq_some_iff.mp hx).1
          omega
        refine ⟨_, tg_name, ws_seq (ws_asg (wx_frz (wx_lcR (wa_cons ?_))))⟩
        refine wx_slot7 1 (fun _ => ed_var rfl) rfl h1 fun j l5 hj h1 => wa_nil ⟨(j : Int), rfl, by omega, by omega, fun i acc M' => ∃ (as : List Ac) (l' : List Int), acc = as.map eA ∧ as.length = i ∧ (∀ a ∈ as, a.ok w) ∧ M' = [(p, .lst (cs.map eC)), (r, rl l')] ∧ Rnd l', ⟨[], l5, rfl, rfl, fun _ h => (nomatch h), rfl, h1⟩, fun i hi => ?_, ?_⟩
        · rintro acc M' ⟨as, l', rfl, rfl, hok', rfl, h1⟩
          refine ⟨by rw [List.length_map]; omega, fun Dl => wt_pure et_yes ⟨_, rfl, fun _ => ⟨by rw [List.length_map]; omega, ?_⟩, fun h => (nomatch h)⟩⟩
          refine wx_call1 (wa_cons (wx_pure (ed_var rfl) (wa_cons (wx_pure (ed_var rfl) ?_))))
          refine wa_nil ⟨rfl, 2, r, rl l', rfl, r, l', w, rfl, rfl, h1, hw1, hw2, fun a l6 hao h1 => ⟨[], _, rfl, _, rfl, as ++ [a], l6, by rw [List.map_append]; rfl, by rw [List.length_append]; rfl, fun x hx => ?_, rfl, h1⟩⟩
          rcases List.mem_append.mp hx with z | z
          · exact hok' x z
          · rw [List.mem_singleton.mp z]; exact hao
        · rintro acc M' ⟨as, l', rfl, hlen', hok', rfl, h1⟩ Dl hD
          refine ⟨Dl, _, _, rfl, rfl, fun z => hD (List.mem_append_left _ (List.mem_cons_of_mem _ z)), ?_⟩
          refine ws_app (ed_var rfl) ⟨_, List.mem_cons_self ..⟩ (wx_tup ?_)
          refine wa_cons (wx_pure (ed_var rfl) (wa_cons (wx_pure (ed_var rfl) (wa_cons (wx_call1 ?_)))))
          refine wa_cons (wx_pure (ed_var rfl) (wa_cons (wx_pure (ed_var rfl) ?_)))
          refine wa_nil ⟨rfl, 1, r, rl l', rfl, r, l', many, rfl, rfl, h1, ha1, by omega, fun pu l6 hpu h1 => ⟨[], _, rfl, wa_nil ⟨Nat.le_of_ble_eq_true rfl, 0, cs.map eC, rfl, by rw [List.length_map]; omega, ?_⟩⟩⟩
          refine ⟨cs ++ [⟨nm, as, pu⟩], l6, some (.str nm), some (.lst (as.map eA)), rfl, by rw [List.map_append]; rfl, h1, by rw [List.length_append]; rfl, ?_, fun c hc => ?_⟩
          · rw [List.map_append, hnm, List.take_succ, hx]
            rfl
          · rcases List.mem_append.mp hc with z | z
            · exact hok c z
            · rw [List.mem_singleton.mp z]
              refine ⟨names8_A _ (hns.mem_iff.mp ?_), by show as.length ≤ 6; omega, hok', hpu⟩
              exact List.mem_of_mem_take (List.mem_of_getElem? hx)
      · rintro Γ' M' ⟨cs, l', c5, c6, rfl, rfl, h1, hlen', hnm, hok⟩
        rw [List.length_map, hmany8] at hlen'
        refine ⟨cs, l', c5, c6, rfl, rfl, h1, ⟨hw1, hw2, by show 1 ≤ cs.length; omega, by show cs.length ≤ 8; omega, hok, ?_⟩, by show cs.length ≤ m; omega, fun c hc => ?_⟩
        · show (cs.map (·.nm)).Nodup
          rw [hnm]
          exact ((hnd.sublist (List.take_sublist _ _)).sublist (List.take_sublist _ _))
        · have h2 : c.nm ∈ cs.map (·.nm) := List.mem_map.mpr ⟨c, hc, rfl⟩
          rw [hnm] at h2
          have h3 := hns.mem_iff.mp (List.mem_of_mem_take (List.mem_of_mem_take h2))
          exact (by decide +kernel : ∀ s ∈ names8, s ∈ names9) _ h3
  · rintro Γ' M' ⟨cs, l', c5, c6, rfl, rfl, h1, hok, hlen⟩
    refine ws_frz 4 rfl hpr ?_
    walk_at "ret"
    exact ⟨[], _, rfl, rfl, k ⟨w, cs⟩ l' hok hlen h1⟩
abbrev tAtext (K : PySem.W.Frag) : TE := tOp (rAddG K) (tOp (rAddG K) (tVar 5) (tC (.str " "))) (tIf (tTest (tOp rIsN (tVar 6) (tC .non))) (tVar 8) (tOp (rAddG K) (tOp (rIxG K) (tC (.str "pqrs")) (tVar 6)) (tIf (tTest (tOp (rEqG K) (tVar 5) (tC (.str "emit")))) (tC (.str "")) (tOp (rAddG K) (tC (.str " ")) (tVar 8)))))
theorem at_n {F : List Addr} {M : Mu} {Γ : Ga} {word la : Str} (h5 : Γ[5]? = some (some (.str word))) (h6 : Γ[6]? = some (some .non)) (h8 : Γ[8]? = some (some (.str la))) (hw : word.length ≤ 10) (hl : la.length ≤ 10) : EvD K F M (tAtext K) Γ (.str ((word ++ (" " : Str)) ++ la)) := by
  refine ed_op (x := .str (word ++ (" " : Str))) (y := .str la) ?_ ?_ ?_
  · refine ed_op (ed_var h5) ed_str ?_
    exact od_addSh hw (Nat.le_refl _) (by decide +kernel)
  · refine ed_if (b := true) ?_ (fun _ => ed_var h8) (fun h => nomatch h)
    refine et_cmp (ed_op (ed_var h6) ed_non ?_)
    exact od_isN
  · exact od_addSh (sh_app hw (Nat.le_refl _)) hl (by decide +kernel)
theorem at_e {F : List Addr} {M : Mu} {Γ : Ga} {la : Dv} {r : Nat} (hr : r < 4) (h5 : Γ[5]? = some (some (.str "emit"))) (h6 : Γ[6]? = some (some (.int r))) : EvD K F M (tAtext K) Γ (.str ((("emit" : Str) ++ (" " : Str)) ++ (⟨#[112 + r]⟩ ++ ("" : Str)))) := by
  refine ed_op (x := .str (("emit" : Str) ++ (" " : Str))) (y := .str (⟨#[112 + r]⟩ ++ ("" : Str))) ?_ ?_ ?_
  · refine ed_op (ed_var h5) ed_str ?_
    exact od_addSh (Nat.le_refl _) (Nat.le_refl _) (by decide +kernel)
  · refine ed_if (b := false) ?_ (fun h => nomatch h) (fun _ => ?_)
    · refine et_cmp (ed_op (ed_var h6) ed_non ?_)
      exact od_isN
    · refine ed_op (x := .str ⟨#[112 + r]⟩) (y := .str ("" : Str)) ?_ ?_ ?_
      · refine ed_op ed_str (ed_var h6) ?_
        exact od_ixS (by decide) (reg_at hr)
      · refine ed_if (b := true) ?_ (fun _ => ed_str) (fun h => nomatch h)
        refine et_cmp (ed_op (ed_var h5) ed_str ?_)
        exact od_eqS
      · exact od_addSh (a := 1) (Nat.le_refl _) (Nat.le_refl _) (by decide +kernel)
  · exact od_addSh (sh_app (Nat.le_refl _) (Nat.le_refl _)) (sh_app (a := 1) (Nat.le_refl _) (Nat.le_refl _)) (by decide +kernel)
theorem at_o {F : List Addr} {M : Mu} {Γ : Ga} {word la : Str} {r : Nat} (hr : r < 4) (h5 : Γ[5]? = some (some (.str word))) (h6 : Γ[6]? = some (some (.int r))) (h8 : Γ[8]? = some (some (.str la))) (hw : word.length ≤ 10) (hl : la.length ≤ 10) (hne : decide (word = "emit") = false) :
    EvD K F M (tAtext K) Γ (.str ((word ++ (" " : Str)) ++ (⟨#[112 + r]⟩ ++ ((" " : Str) ++ la)))) := by
  refine ed_op (x := .str (word ++ (" " : Str))) (y := .str (⟨#[112 + r]⟩ ++ ((" " : Str) ++ la))) ?_ ?_ ?_
  · refine ed_op (ed_var h5) ed_str ?_
    exact od_addSh hw (Nat.le_refl _) (by decide +kernel)
  · refine ed_if (b := false) ?_ (fun h => nomatch h) (fun _ => ?_)
    · refine et_cmp (ed_op (ed_var h6) ed_non ?_)
      exact od_isN
    · refine ed_op (x := .str ⟨#[112 + r]⟩) (y := .str ((" " : Str) ++ la)) ?_ ?_ ?_
      · refine ed_op ed_str (ed_var h6) ?_
        exact od_ixS (by decide) (reg_at hr)
      · refine ed_if (b := false) ?_ (fun h => nomatch h) (fun _ => ?_)
        · refine et_cmp (ed_is (ed_op (ed_var h5) ed_str od_eqS) ?_)
          rw [hne]
        · refine ed_op ed_str (ed_var h8) ?_
          exact od_addSh (Nat.le_refl _) hl (by decide +kernel)
      · exact od_addSh (a := 1) (Nat.le_refl _) (sh_app (Nat.le_refl _) hl) (by decide +kernel)
  · exact od_addSh (sh_app hw (Nat.le_refl _)) (sh_app (a := 1) (Nat.le_refl _) (sh_app (Nat.le_refl _) hl)) (by decide +kernel)
/-- str(other) if word == 'add' or slot is None else 'pqrs'[other] -/
abbrev tAlast (K : PySem.W.Frag) : TE := tIf (tOr (tTest (tOp (rEqG K) (tVar 5) (tC (.str "add")))) (tTest (tOp rIsN (tVar 6) (tC .non)))) (tCB rStrG (tCons (tVar 7) tNil)) (tOp (rIxG K) (tC (.str "pqrs")) (tVar 7))
theorem al_y {F : List Addr} {M : Mu} {Γ : Ga} {word : Str} {sl : Dv} {n : Nat} (h5 : Γ[5]? = some (some (.str word))) (h6 : Γ[6]? = some (some sl)) (h7 : Γ[7]? = some (some (.int n))) (hn : n < 1000) (hb : (decide (word = "add") || sl.isN) = true) : EvD K F M (tAlast K) Γ (.str (num n)) := by
  refine ed_if (b := true) ?_ (fun _ => ?_) (fun h => nomatch h)
  · refine et_is (et_or (et_cmp (ed_op (ed_var h5) ed_str od_eqS)) fun _ => et_cmp (ed_op (ed_var h6) ed_non od_isN)) hb
  · refine ed_cb (ea_cons (ed_var h7) ea_nil) ?_
    exact cd_str (by omega)
theorem al_n {F : List Addr} {M : Mu} {Γ : Ga} {word : Str} {sl : Dv} {n : Nat} (h5 : Γ[5]? = some (some (.str word))) (h6 : Γ[6]? = some (some sl)) (h7 : Γ[7]? = some (some (.int n))) (hn : n < 4) (hb : (decide (word = "add") || sl.isN) = false) : EvD K F M (tAlast K) Γ (.str ⟨#[112 + n]⟩) := by
  refine ed_if (b := false) ?_ (fun h => nomatch h) (fun _ => ?_)
  · refine et_is (et_or (et_cmp (ed_op (ed_var h5) ed_str od_eqS)) fun _ => et_cmp (ed_op (ed_var h6) ed_non od_isN)) hb
  · refine ed_op ed_str (ed_var h7) ?_
    exact od_ixS (by decide) (reg_at hn)
theorem joinL_len {c : Cd} {w : Nat} (hok : c.ok w) (hw : w ≤ 1000) : (Str.join ", " (c.ac.map fun a => mk (actL a))).length ≤ 200 := by
  rw [len_tl, tl_join]
  have := joinL_le [44, 32] 20 (c.ac.map actL) (fun p hp => by
    obtain ⟨a, ha, rfl⟩ := List.mem_map.mp hp
    exact actL_le hw (hok.ac a ha))
  have h4 := hok.len
  rw [List.length_map] at this
  rw [List.map_map]
  show (joinL [44, 32] (c.ac.map actL)).length ≤ 200
  simp only [List.length_cons, List.length_nil] at this
  omega
/-- name + ': ' + ', '.join(texts) + ' ' * int(texts != []) + '-> ' + rule + ';' -/
theorem at_all {F : List Addr} {Γ : Ga} {c : Cd} {w : Nat} {ru : Str} (hok : c.ok w) (hw : w ≤ 1000) (h1 : Γ[1]? = some (some (.str c.nm))) (h4 : Γ[4]? = some (some (.lst ((c.ac.map fun a => mk (actL a)).map Dv.str)))) (h11 : Γ[11]? = some (some (.str ru))) (hr : tl ru = putL c.pu) :
    EvD K F [] (tOp (rAddG K) (tOp (rAddG K) (tOp (rAddG K) (tOp (rAddG K) (tOp (rAddG K) (tOp (rAddG K) (tVar 1) (tC (.str ": "))) (tBM K "str" (rJoinG K) (tC (.str ", ")) (tCons (tVar 4) tNil))) (tOp (rMulG K) (tC (.str " ")) (tCB rIntG (tCons (tOp (rNeG K) (tVar 4) (tLst tNil)) tNil)))) (tC (.str "-> "))) (tVar 11)) (tC (.str ";"))) Γ (.str (mk (cardL c))) := by
  have hnm := names_le _ hok.nm
  have hj := joinL_len hok hw
  have hru : ru.length ≤ 20 := by rw [len_tl, hr]; exact putL_le hok.pu
  have hsum : (((c.ac.map fun a => mk (actL a))).map (·.length)).sum + (c.ac.map fun a => mk (actL a)).length * (", " : Str).length ≤ 1000000 := by
    have : ∀ l : List Ac, (∀ a ∈ l, a.ok w) → ((l.map fun a => mk (actL a)).map (·.length)).sum ≤ l.length * 20 := fun l => by
      induction l with
      | nil => intro _; simp
      | cons a l ih =>
        intro h
        have h1 := actL_le hw (h a (List.mem_cons_self ..))
        have h2 := ih fun x hx => h x (List.mem_cons_of_mem _ hx)
        simp only [List.map_cons, List.sum_cons, List.length_cons, mk_len] at h1 h2 ⊢
        omega
    have h1 := this c.ac hok.ac
    have h2 := hok.len
    have h3 : (", " : Str).length = 2 := by decide +kernel
    rw [h3, List.length_map]
    omega
  have hpl : ∀ e ∈ ((c.ac.map fun a => mk (actL a)).map Dv.str), Pl 0 e := fun e he => by
    obtain ⟨s, hs, rfl⟩ := List.mem_map.mp he
    obtain ⟨a, ha, rfl⟩ := List.mem_map.mp hs
    show PyData.strOk _ = true
    have hall : ∀ x ∈ actL a, x < 1114112 := by
      have hd : ∀ n, ∀ x ∈ numL n, x < 1114112 := fun n x hx => by
        have := numL_digits n x hx
        omega
      have hreg : ∀ r, r < 4 → ∀ x ∈ regL r, x < 1114112 := fun r hr x hx => by
        have := List.mem_singleton.mp hx
        omega
      have hok' := hok.ac a ha
      intro x hx
      cases a with
      | add r n => simp only [actL, List.mem_append, List.mem_cons, List.not_mem_nil, or_false] at hx; rcases hx with (((h | h | h | h) | h) | h) | h <;> first | omega | exact hreg _ hok'.1 x h | exact hd _ x h
      | copy r s => simp only [actL, List.mem_append, List.mem_cons, List.not_mem_nil, or_false] at hx; rcases hx with (((h | h | h | h | h) | h) | h) | h <;> first | omega | exact hreg _ hok'.1 x h | exact hreg _ hok'.2 x h
      | swap r s => simp only [actL, List.mem_append, List.mem_cons, List.not_mem_nil, or_false] at hx; rcases hx with (((h | h | h | h | h) | h) | h) | h <;> first | omega | exact hreg _ hok'.1 x h | exact hreg _ hok'.2 x h
      | emr r => simp only [actL, List.mem_append, List.mem_cons, List.not_mem_nil, or_false] at hx; rcases hx with (h | h | h | h | h) | h <;> first | omega | exact hreg _ hok' x h
      | emn n => simp only [actL, List.mem_append, List.mem_cons, List.not_mem_nil, or_false] at hx; rcases hx with (h | h | h | h | h) | h <;> first | omega | exact hd _ x h
    show (mk (actL a)).cps.all _ = true
    rw [← Array.all_toList, List.all_eq_true]
    intro x hx
    exact decide_eq_true (hall x hx)
  obtain ⟨m1, m2⟩ := mul_01 (a := (" " : Str)) (by decide +kernel) (!((c.ac.map fun a => mk (actL a)).map Dv.str).isEmpty)
  refine ed_mk (s := ((((((c.nm ++ (": " : Str)) ++ Str.join ", " (c.ac.map fun a => mk (actL a))) ++ (if (!((c.ac.map fun a => mk (actL a)).map Dv.str).isEmpty) then (" " : Str) else mk [])) ++ ("-> " : Str)) ++ ru) ++ (";" : Str))) ?_ ?_
  · have hsp : (if (!((c.ac.map fun a => mk (actL a)).map Dv.str).isEmpty) then (" " : Str) else mk []).length ≤ 1 := by split <;> decide +kernel
    have hmul : EvS K F [] (tOp (rMulG K) (tC (.str " ")) (tCB rIntG (tCons (tOp (rNeG K) (tVar 4) (tLst tNil)) tNil))) Γ (if (!((c.ac.map fun a => mk (actL a)).map Dv.str).isEmpty) then (" " : Str) else mk []) 1 := by
      refine ⟨ed_op (x := .str " ") (y := .int (if (!((c.ac.map fun a => mk (actL a)).map Dv.str).isEmpty) then 1 else 0)) ed_str ?_ ?_, hsp⟩
      · refine ed_cb (ds := [.bl (!((c.ac.map fun a => mk (actL a)).map Dv.str).isEmpty)]) (ea_cons ?_ ea_nil) cd_intB
        refine ed_op (ed_var h4) (ed_lst ea_nil (Nat.zero_le _)) ?_
        exact od_ne0 hpl (by decide)
      · have := od_mulS (K := K) (F := F) (M := []) m1
        rw [m2] at this
        exact this
    have hjn : EvS K F [] (tBM K "str" (rJoinG K) (tC (.str ", ")) (tCons (tVar 4) tNil)) Γ (Str.join ", " (c.ac.map fun a => mk (actL a))) 200 := ⟨ed_bmS ed_str (ea_cons (ed_var h4) ea_nil) (md_join hsum), hj⟩
    exact (es_cat (es_cat (es_cat (es_cat (es_cat (es_cat (es_of (ed_var h1) hnm) (es_str (n := 2) (by decide +kernel)) rfl) hjn rfl) hmul rfl) (es_str (n := 3) (by decide +kernel)) rfl) (es_of (ed_var h11) hru) rfl) (es_str (n := 1) (by decide +kernel)) rfl).1
  · have e1 : tl (if (!((c.ac.map fun a => mk (actL a)).map Dv.str).isEmpty) then (" " : Str) else mk []) = (if c.ac = [] then [] else [32]) := by
      cases c.ac with
      | nil => rfl
      | cons a l => rfl
    have e2 : ((c.ac.map fun a => mk (actL a)).map tl) = c.ac.map actL := by rw [List.map_map]; rfl
    simp only [tl_append, tl_join, e1, e2, hr, cardL]
    rfl

abbrev s_card_text : Stmt := top 55
abbrev N_card_text : List Str := ["_law_card", "_law_name", "_law_actions", "_law_put_here", "_law_texts", "_law_word", "_law_slot", "_law_other", "_law_last", "_law_first", "_law_second", "_law_rule"]
theorem sc_card_text : FnScope N_card_text ["_law_card"] (defScope s_card_text) := ⟨rfl, rfl, rfl, by decide +kernel, rfl, by decide +kernel, by decide +kernel⟩

theorem c_card_text (T : Txt K mg a) : Cal P w K mg base 1 "_law_card_text" ["_law_card"] (spD K 1 S_card_text) := by
  refine T.d_card_text.cal fun f fd Fn => Fn.ok sc_card_text (fun vs H Q E h => spD_len h) (fun cdv A outer s H vs Q E HR h => ⟨_, (pss_cons (ps_asg (pv 0) (pg_tup (n := 3) rfl (pgs_cons (pg_name (i := 1) sc_card_text.nd rfl (Or.inl rfl)) (pgs_cons (pg_name (i := 2) sc_card_text.nd rfl (Or.inl rfl)) (pgs_cons (pg_name (i := 3) sc_card_text.nd rfl (Or.inl rfl)) pgs_nil)))))
        (pss_cons (ps_set (i := 4) sc_card_text.nd rfl (Or.inl rfl) (pe_lst pa_nil))
        (pss_cons (ps_for PassesOwn.never rfl (pi_list (pv 2)) (pg_tup (n := 3) rfl (pgs_cons (pg_name (i := 5) sc_card_text.nd rfl (Or.inl rfl)) (pgs_cons (pg_name (i := 6) sc_card_text.nd rfl (Or.inl rfl)) (pgs_cons (pg_name (i := 7) sc_card_text.nd rfl (Or.inl rfl)) pgs_nil)))) (pss_cons (ps_set (i := 8) sc_card_text.nd rfl (Or.inl rfl) (pe_ifExp (PW.pt (pw_or (pt_cmpR (op_eqG (K := K) rfl HR.units) (pv 5) pe_str (nomark _)) (pw_or1 (pt_cmpR op_isG (pv 6) pe_non (nomark _))))) (pe_callTy call_strG rfl T.b_str (by decide +kernel) (pa_cons (pv 7) pa_nil)) (pe_ix (ix_G (K := K) rfl) pe_str (pv 7) (fun _ _ => rfl))))
        (pss_one (ps_expr (pe_bm PySem.F.plainAttrs_list PySem.F.slot_list_append PySem.F.type_list_append mt_append (pv 4) (pa_cons (pe_op (op_addG (K := K) rfl) (pe_op (op_addG (K := K) rfl) (pv 5) pe_str) (pe_ifExp (pt_cmpR op_isG (pv 6) pe_non (nomark _)) (pv 8) (pe_op (op_addG (K := K) rfl) (pe_ix (ix_G (K := K) rfl) pe_str (pv 6) (fun _ _ => rfl)) (pe_ifExp (pt_cmpR (op_eqG (K := K) rfl HR.units) (pv 5) pe_str (nomark _)) pe_str (pe_op (op_addG (K := K) rfl) pe_str (pv 8)))))) pa_nil))))))
        (pss_cons (ps_asg (pv 3) (pg_tup (n := 3) rfl (pgs_cons (pg_name (i := 6) sc_card_text.nd rfl (Or.inl rfl)) (pgs_cons (pg_name (i := 9) sc_card_text.nd rfl (Or.inl rfl)) (pgs_cons (pg_name (i := 10) sc_card_text.nd rfl (Or.inl rfl)) pgs_nil)))))
        (pss_cons (ps_set (i := 11) sc_card_text.nd rfl (Or.inl rfl) (pe_ifExp (pt_cmpR op_isG (pv 6) pe_non (nomark _)) (pe_callTy call_strG rfl T.b_str (by decide +kernel) (pa_cons (pv 9) pa_nil)) (pe_ix (ix_G (K := K) rfl) pe_str (pv 6) (fun _ _ => rfl))))
        (pss_cons (ps_if (PW.pt (pw_and (pt_cmpR op_isnG (pv 6) pe_non (nomark _)) (pw_and1 (pt_cmpR op_isnG (pv 10) pe_non (nomark _))))) (pss_one (ps_set (i := 11) sc_card_text.nd rfl (Or.inl rfl) (pe_op (op_addG (K := K) rfl) (pe_op (op_addG (K := K) rfl) (pe_op (op_addG (K := K) rfl) (pe_op (op_addG (K := K) rfl) (pv 11) pe_str) (pe_callTy call_strG rfl T.b_str (by decide +kernel) (pa_cons (pv 9) pa_nil))) pe_str) (pe_callTy call_strG rfl T.b_str (by decide +kernel) (pa_cons (pv 10) pa_nil))))) pss_nil)
        (pss_one (ps_ret (pe_op (op_addG (K := K) rfl) (pe_op (op_addG (K := K) rfl) (pe_op (op_addG (K := K) rfl) (pe_op (op_addG (K := K) rfl) (pe_op (op_addG (K := K) rfl) (pe_op (op_addG (K := K) rfl) (pv 1) pe_str) (pe_bm PySem.F.plainAttrs_str PySem.F.slot_str_join PySem.F.type_str_join (mt_joinG (K := K) rfl) pe_str (pa_cons (pv 4) pa_nil))) (pe_op (op_mulGG (K := K) rfl) pe_str (pe_callTy call_intG rfl T.b_int (by decide +kernel) (pa_cons (pe_cmpR (op_neG (K := K) rfl HR.units) (pv 4) (pe_lst pa_nil) (nomark _)) pa_nil)))) pe_str) (pv 11)) pe_str))))))))), body h (by decide) fun F M ds R hS hl => ?_⟩)
  obtain ⟨c, w, rfl, rfl, hok, hw, k⟩ := hS
  try dsimp only [cxOf, Cx.nox, Cx.wish]
  walk_at "nrm"
  refine ws_seq (ws_asgG (wx_pure (ed_var rfl) ⟨_, tg_tup (tgs_cons tg_name (tgs_cons tg_name (tgs_cons tg_name tgs_nil))) rfl, ?_⟩))
  refine ws_seq (ws_new (en_lst ea_nil (Nat.zero_le _)) fun p hp => ?_)
  have hpn : p ∉ ([] : List Addr) := fun z => nomatch z
  have hnm := names_le _ hok.nm
  walk_at "nrm"
  refine ws_cut (fun Γ' M' => ∃ c5 c6 c7 c8, Γ' = [some (eC c), some (.str c.nm), some (.lst (c.ac.map eA)), some (eP c.pu), some (.adr p), c5, c6, c7, c8, none, none, none] ∧ M' = [(p, .lst ((c.ac.map fun a => mk (actL a)).map Dv.str))]) ?_ ?_
  · refine ws_forL (wx_pure (ed_var rfl) ⟨_, .inl rfl, fun i Γ' M' => ∃ c5 c6 c7 c8, Γ' = [some (eC c), some (.str c.nm), some (.lst (c.ac.map eA)), some (eP c.pu), some (.adr p), c5, c6, c7, c8, none, none, none] ∧ M' = [(p, .lst (((c.ac.take i).map fun a => mk (actL a)).map Dv.str))], ⟨none, none, none, none, rfl, rfl⟩, ?_, ?_⟩)
    · rintro i e Γ' M' he ⟨c5, c6, c7, c8, rfl, rfl⟩
      rw [List.getElem?_map] at he
      cases ha : c.ac[i]? with
      | none => rw [ha] at he; cases he
      | some a =>
      rw [ha] at he
      cases he
      have hao := hok.ac a (List.mem_of_getElem? ha)
      have hlen : ((((c.ac.take i).map fun a => mk (actL a)).map Dv.str)).length < 100000 := by
        rw [List.length_map, List.length_map, List.length_take]
        have := hok.len
        omega
      have fin : ∀ d, d = Dv.str (mk (actL a)) → [(p, Mv.lst ((((c.ac.take i).map fun a => mk (actL a)).map Dv.str) ++ [d]))] = [(p, Mv.lst (((c.ac.take (i + 1)).map fun a => mk (actL a)).map Dv.str))] := fun d hd => by
        rw [hd, List.take_succ, ha, Option.toList_some, List.map_append, List.map_append]
        rfl
      cases a with
      | add r n =>
        refine ⟨_, tg_tup (tgs_cons tg_name (tgs_cons tg_name (tgs_cons tg_name tgs_nil))) rfl, ?_⟩
        walk_at "nrm"
        refine ws_seq (ws_asg (wx_pure (al_y rfl rfl rfl (by have := hao.2; omega) rfl) ?_))
        walk_at "nrm"
        refine ws_app (ed_var rfl) ⟨_, List.mem_singleton.mpr rfl⟩ (wx_pure (ed_mk (at_o hao.1 rfl rfl rfl (by decide +kernel) (Nat.le_trans (num_le (by have := hao.2; omega)) (by decide)) (by decide +kernel)) ?_) ⟨0, _, rfl, hlen, _, _, _, _, rfl, fin _ rfl⟩)
        simp only [tl_append, tl_num', actL, regL]
        rfl
      | copy r s =>
        refine ⟨_, tg_tup (tgs_cons tg_name (tgs_cons tg_name (tgs_cons tg_name tgs_nil))) rfl, ?_⟩
        walk_at "nrm"
        refine ws_seq (ws_asg (wx_pure (al_n rfl rfl rfl hao.2 (by rw [Bool.or_eq_false_iff]; exact ⟨by decide +kernel, rfl⟩)) ?_))
        walk_at "nrm"
        refine ws_app (ed_var rfl) ⟨_, List.mem_singleton.mpr rfl⟩ (wx_pure (ed_mk (at_o hao.1 rfl rfl rfl (by decide +kernel) (Nat.le_of_ble_eq_true rfl) (by decide +kernel)) ?_) ⟨0, _, rfl, hlen, _, _, _, _, rfl, fin _ rfl⟩)
        simp only [tl_append, tl_num', actL, regL]
        rfl
      | swap r s =>
        refine ⟨_, tg_tup (tgs_cons tg_name (tgs_cons tg_name (tgs_cons tg_name tgs_nil))) rfl, ?_⟩
        walk_at "nrm"
        refine ws_seq (ws_asg (wx_pure (al_n rfl rfl rfl hao.2 (by rw [Bool.or_eq_false_iff]; exact ⟨by decide +kernel, rfl⟩)) ?_))
        walk_at "nrm"
        refine ws_app (ed_var rfl) ⟨_, List.mem_singleton.mpr rfl⟩ (wx_pure (ed_mk (at_o hao.1 rfl rfl rfl (by decide +kernel) (Nat.le_of_ble_eq_true rfl) (by decide +kernel)) ?_) ⟨0, _, rfl, hlen, _, _, _, _, rfl, fin _ rfl⟩)
        simp only [tl_append, tl_num', actL, regL]
        rfl
      | emr r =>
        refine ⟨_, tg_tup (tgs_cons tg_name (tgs_cons tg_name (tgs_cons tg_name tgs_nil))) rfl, ?_⟩
        walk_at "nrm"
        refine ws_seq (ws_asg (wx_pure (al_n (n := 0) rfl rfl rfl (by decide) (by rw [Bool.or_eq_false_iff]; exact ⟨by decide +kernel, rfl⟩)) ?_))
        walk_at "nrm"
        refine ws_app (ed_var rfl) ⟨_, List.mem_singleton.mpr rfl⟩ (wx_pure (ed_mk (at_e (la := .non) hao rfl rfl) ?_) ⟨0, _, rfl, hlen, _, _, _, _, rfl, fin _ rfl⟩)
        simp only [tl_append, tl_num', actL, regL]
        rfl
      | emn n =>
        refine ⟨_, tg_tup (tgs_cons tg_name (tgs_cons tg_name (tgs_cons tg_name tgs_nil))) rfl, ?_⟩
        walk_at "nrm"
        refine ws_seq (ws_asg (wx_pure (al_y rfl rfl rfl (by have : n < w := hao; omega) (by rw [Bool.or_eq_true]; exact .inr rfl)) ?_))
        walk_at "nrm"
        refine ws_app (ed_var rfl) ⟨_, List.mem_singleton.mpr rfl⟩ (wx_pure (ed_mk (at_n rfl rfl rfl (by decide +kernel) (Nat.le_trans (num_le (by have : n < w := hao; omega)) (by decide))) ?_) ⟨0, _, rfl, hlen, _, _, _, _, rfl, fin _ rfl⟩)
        simp only [tl_append, tl_num', actL, regL]
        rfl
    · rintro Γ' M' ⟨c5, c6, c7, c8, rfl, rfl⟩
      rw [List.length_map, List.take_length]
      exact ⟨c5, c6, c7, c8, rfl, rfl⟩
  · rintro Γ' M' ⟨c5, c6, c7, c8, rfl, rfl⟩
    refine ws_frz 4 rfl hpn ?_
    walk_at "nrm"
    obtain ⟨nm, ac, pu⟩ := c
    have hpu := hok.pu
    cases pu with
    | num n =>
      have hn : n < 1000 := by have : n ≤ 9 := hpu; omega
      refine ws_seq (ws_asgG (wx_pure (ed_var rfl) ⟨_, tg_tup (tgs_cons tg_name (tgs_cons tg_name (tgs_cons tg_name tgs_nil))) rfl, ?_⟩))
      walk_at "nrm"
      refine ws_seq (ws_asg (wx_pure (d := .str (num n)) (ed_if (b := true) (et_cmp (ed_op (ed_var rfl) ed_non od_isN)) (fun _ => ed_cb (ea_cons (ed_var rfl) ea_nil) (cd_str (by omega))) (fun h => nomatch h)) ?_))
      walk_at "nrm"
      refine ws_seq (ws_if (wt_pure (b := false) (et_and (a := false) (b := true) (et_cmp (ed_op (ed_var rfl) ed_non od_notN)) (fun h => nomatch h)) ⟨fun h => (nomatch h), fun _ => ws_next ?_⟩))
      refine ws_ret (wx_pure (at_all hok hw rfl rfl rfl (tl_num' n)) ⟨[], [], rfl, rfl, k⟩)
    | reg r =>
      refine ws_seq (ws_asgG (wx_pure (ed_var rfl) ⟨_, tg_tup (tgs_cons tg_name (tgs_cons tg_name (tgs_cons tg_name tgs_nil))) rfl, ?_⟩))
      walk_at "nrm"
      refine ws_seq (ws_asg (wx_pure (d := .str ⟨#[112 + r]⟩) (ed_if (b := false) (et_cmp (ed_op (ed_var rfl) ed_non od_isN)) (fun h => nomatch h) (fun _ => ed_op ed_str (ed_var rfl) (od_ixS (by decide) (reg_at hpu)))) ?_))
      walk_at "nrm"
      refine ws_seq (ws_if (wt_pure (b := false) (et_is (et_and (et_cmp (ed_op (ed_var rfl) ed_non od_notN)) (fun _ => et_cmp (ed_op (ed_var rfl) ed_non od_notN))) (by rw [Bool.and_eq_false_iff]; exact .inr rfl)) ⟨fun h => (nomatch h), fun _ => ws_next ?_⟩))
      refine ws_ret (wx_pure (at_all hok hw rfl rfl rfl rfl) ⟨[], [], rfl, rfl, k⟩)
    | cho r m n =>
      have hm := num_le (n := m) (by have := hpu.2.1; omega)
      have hn := num_le (n := n) (by have := hpu.2.2; omega)
      refine ws_seq (ws_asgG (wx_pure (ed_var rfl) ⟨_, tg_tup (tgs_cons tg_name (tgs_cons tg_name (tgs_cons tg_name tgs_nil))) rfl, ?_⟩))
      walk_at "nrm"
      refine ws_seq (ws_asg (wx_pure (d := .str ⟨#[112 + r]⟩) (ed_if (b := false) (et_cmp (ed_op (ed_var rfl) ed_non od_isN)) (fun h => nomatch h) (fun _ => ed_op ed_str (ed_var rfl) (od_ixS (by decide) (reg_at hpu.1)))) ?_))
      walk_at "nrm"
      refine ws_seq (ws_if (wt_pure (b := true) (et_is (et_and (et_cmp (ed_op (ed_var rfl) ed_non od_notN)) (fun _ => et_cmp (ed_op (ed_var rfl) ed_non od_notN))) (by rw [Bool.and_eq_true]; exact ⟨rfl, rfl⟩)) ⟨fun _ => ?_, fun h => (nomatch h)⟩))
      refine ws_asg (wx_pure (d := .str ((((⟨#[112 + r]⟩ ++ (" ? " : Str)) ++ num m) ++ (" : " : Str)) ++ num n)) ?_ ?_)
      · exact (es_cat (es_cat (es_cat (es_cat (es_of (n := 1) (ed_var rfl) (Nat.le_refl _)) (es_str (n := 3) (by decide +kernel)) rfl) (es_of (ed_cb (ea_cons (ed_var rfl) ea_nil) (cd_str (by have := hpu.2.1; omega))) hm) rfl) (es_str (n := 3) (by decide +kernel)) rfl) (es_of (ed_cb (ea_cons (ed_var rfl) ea_nil) (cd_str (by have := hpu.2.2; omega))) hn) rfl).1
      walk_at "nrm"
      refine ws_ret (wx_pure (at_all hok hw rfl rfl rfl ?_) ⟨[], [], rfl, rfl, k⟩)
      simp only [tl_append, tl_num', putL, regL]
      rfl
abbrev s_text : Stmt := top 56
abbrev N_text : List Str := ["_law_deck_here", "_law_card"]
theorem sc_text : FnScope N_text ["_law_deck_here"] (defScope s_text) := ⟨rfl, rfl, rfl, by decide +kernel, rfl, by decide +kernel, by decide +kernel⟩

theorem c_text (T : Txt K mg a) : Cal P w K mg base 2 "_law_text" ["_law_deck_here"] (spD K 1 S_text) := by
  have C_card_text := c_card_text (P := P) (w := w) (base := base) T
  refine T.d_text.cal fun f fd Fn => Fn.ok sc_text (fun vs H Q E h => spD_len h) (fun cdv A outer s H vs Q E HR h => ⟨_, (pss_one (ps_ret (pe_bm PySem.F.plainAttrs_str PySem.F.slot_str_join PySem.F.type_str_join (mt_joinG (K := K) rfl) pe_str (pa_cons (pe_op (op_addG (K := K) rfl) (pe_lst (pa_cons (pe_op (op_addG (K := K) rfl) (pe_op (op_addG (K := K) rfl) pe_str (pe_callTy call_strG rfl T.b_str (by decide +kernel) (pa_cons (pe_ix (ix_G (K := K) rfl) (pv 0) pe_int (fun _ _ => rfl)) pa_nil))) pe_str) pa_nil)) (pe_lc (own := [("_law_card", 1)]) (g := (gName 1)) (tt := tYes) rfl sc_text.nd (pi_list (pe_ix (ix_G (K := K) rfl) (pv 0) pe_int (fun _ _ => rfl))) (blkOk_by (N := N_text) (sc := defScope s_text) (by decide +kernel)) (fun _ _ _ _ _ => (pg_name (i := 1) sc_text.nd rfl (Or.inl rfl))) (fun _ _ _ _ _ => pts_nil) (fun _ _ _ _ _ => (pe_cal C_card_text (HR.mono (by decide)) rfl (pa_cons (pv 1) pa_nil))))) pa_nil)))), body h (by decide) fun F M ds R hS hl => ?_⟩)
  obtain ⟨d, rfl, rfl, hok, k⟩ := hS
  try dsimp only [cxOf, Cx.nox, Cx.wish]
  walk_at "nrm"
  have hw : d.w ≤ 1000 := by have := hok.hi; omega
  have hc8 := hok.le
  have hjl : ∀ c ∈ d.cs, (cardL c).length ≤ 300 := fun c hc => cardL_le hw (hok.cs c hc)
  have main : EvD K F [] (tBM K "str" (rJoinG K) (tC (.str "\n")) (tCons (tOp (rAddG K) (tLst (tCons (tOp (rAddG K) (tOp (rAddG K) (tC (.str "wrap ")) (tCB rStrG (tCons (tOp (rIxG K) (tVar 0) (tC (.int 0))) tNil))) (tC (.str ";"))) tNil)) (tLc (iList K (tOp (rIxG K) (tVar 0) (tC (.int 1)))) (gName 1) tYes (tCall (spD K 1 S_card_text) [] E0 (tCons (tVar 1) tNil)) [1])) tNil)) [some (eD d), none] (.str (Str.join "\n" (((("wrap " : Str) ++ num d.w) ++ (";" : Str)) :: d.cs.map fun c => mk (cardL c)))) := by
    refine ed_bmS ed_str (ea_cons (ed_new (ds := Dv.str ((("wrap " : Str) ++ num d.w) ++ (";" : Str)) :: (d.cs.map fun c => Dv.str (mk (cardL c)))) ?_) ea_nil) ?_
    · refine en_addL (i := [.str ((("wrap " : Str) ++ num d.w) ++ (";" : Str))]) (j := d.cs.map fun c => Dv.str (mk (cardL c))) ?_ (ed_new ?_) ?_
      · refine ed_lst (ea_cons ?_ ea_nil) (Nat.le_of_ble_eq_true rfl)
        refine (es_cat (es_cat (es_str (n := 5) (by decide +kernel)) (es_of (n := 3) (ed_cb (ea_cons (ed_op (ed_var rfl) ed_int (od_ixT (j := 0) rfl)) ea_nil) (cd_str (by omega))) (num_le (by have := hok.hi; omega))) rfl) (es_str (n := 1) (by decide +kernel)) rfl).1
      · refine en_lcI (ds := d.cs.map eC) (ed_op (ed_var rfl) ed_int (od_ixT (j := 1) rfl)) (.inl rfl) (by rw [List.length_map]; omega) (by rw [List.length_map, List.length_map]) fun i e r he hr Dl => ?_
        rw [List.getElem?_map] at he hr
        cases hc : d.cs[i]? with
        | none => rw [hc] at he; cases he
        | some c =>
        rw [hc] at he hr
        cases he
        cases hr
        exact ed_call (ea_cons (ed_var rfl) ea_nil) rfl ⟨c, d.w, rfl, rfl, hok.cs c (List.mem_of_getElem? hc), hw, rfl, rfl⟩
      · rw [List.length_map]; show 1 + _ ≤ _; omega
    · have e : (Dv.str ((("wrap " : Str) ++ num d.w) ++ (";" : Str)) :: (d.cs.map fun c => Dv.str (mk (cardL c)))) = (((("wrap " : Str) ++ num d.w) ++ (";" : Str)) :: d.cs.map fun c => mk (cardL c)).map Dv.str := by
        rw [List.map_cons, List.map_map]
        rfl
      rw [e]
      refine md_join ?_
      have h1 : ∀ l : List Cd, (∀ c ∈ l, (cardL c).length ≤ 300) → ((l.map fun c => mk (cardL c)).map (·.length)).sum ≤ l.length * 300 := fun l => by
        induction l with
        | nil => intro _; simp
        | cons a l ih =>
          intro h
          have h1 := h a (List.mem_cons_self ..)
          have h2 := ih fun x hx => h x (List.mem_cons_of_mem _ hx)
          simp only [List.map_cons, List.sum_cons, List.length_cons, mk_len] at h1 h2 ⊢
          omega
      have h2 := h1 d.cs hjl
      have h3 : ((("wrap " : Str) ++ num d.w) ++ (";" : Str)).length ≤ 5 + 3 + 1 := sh_app (sh_app (by decide +kernel) (num_le (by have := hok.hi; omega))) (by decide +kernel)
      have h4 : ("\n" : Str).length = 1 := by decide +kernel
      rw [List.map_cons, List.sum_cons, List.length_cons, List.length_map, h4]
      omega
  refine ws_ret (wx_pure (ed_mk main ?_) ⟨[], [], rfl, rfl, k⟩)
  rw [tl_join, List.map_cons, List.map_map, tl_append, tl_append, tl_num']
  rfl
theorem skip_step {l z : List Nat} {c : Nat} {x : Nat} (h : l[c]? = some x) : (((l.drop c).takeWhile fun x => decide (x ∈ z)).length) = if x ∈ z then 1 + ((l.drop (c + 1)).takeWhile fun x => decide (x ∈ z)).length else 0 := by
  have hc := (List.getElem?_eq_some_iff.mp h)
  obtain ⟨hl, he⟩ := hc
  rw [List.drop_eq_getElem_cons hl, List.takeWhile_cons, he]
  by_cases hx : x ∈ z
  · rw [if_pos hx, decide_eq_true hx]
    show (x :: _).length = _
    rw [List.length_cons]
    omega
  · rw [if_neg hx, decide_eq_false hx]
    rfl

abbrev s_skip : Stmt := top 27
abbrev N_skip : List Str := ["row", "column", "characters"]
theorem sc_skip : FnScope N_skip ["row", "column", "characters"] (defScope s_skip) := ⟨rfl, rfl, rfl, by decide +kernel, rfl, by decide +kernel, by decide +kernel⟩

theorem c_skip (T : Txt K mg a) : Cal P w K mg base 1 "skip" ["row", "column", "characters"] (spD K 3 S_skip) := by
  refine T.d_skip.cal fun f fd Fn => Fn.ok sc_skip (fun vs H Q E h => spD_len h) (fun cdv A outer s H vs Q E HR h => ⟨_, (pss_cons (ps_while PassesOwn.never (PW.pt (pw_and (pt_cmpR op_ltG (pv 1) (pe_callB (call_lenG (K := K) rfl) rfl T.b_len (by decide +kernel) (pa_cons (pv 0) pa_nil)) (nomark _)) (pw_and1 (pt_cmpR (op_inG (K := K) rfl (room65 HR)) (pe_ix (ix_G (K := K) rfl) (pv 0) (pv 1) (fun _ _ => rfl)) (pv 2) (by rfl))))) (pss_one (ps_aug (i := 1) sc_skip.nd rfl (Or.inl rfl) pe_int ip_add)))
        (pss_one (ps_ret (pv 1)))), body h (by decide) fun F M ds R hS hl => ?_⟩)
  obtain ⟨row, c, z, rfl, rfl, hrow, hc, k⟩ := hS
  try dsimp only [cxOf, Cx.nox, Cx.wish]
  walk_at "nrm"
  refine ws_cut (fun Γ' M' => M' = [] ∧ Γ' = [some (.str row), some (.int ((c + ((((tl row).drop c).takeWhile fun x => decide (x ∈ tl z)).length) : Nat) : Int)), some (.str z)]) ?_ ?_
  · refine ws_while (fun m Γ' M' => M' = [] ∧ ∃ c' : Nat, Γ' = [some (.str row), some (.int c'), some (.str z)] ∧ c' ≤ row.length ∧ c' + ((((tl row).drop c').takeWhile fun x => decide (x ∈ tl z)).length) = c + ((((tl row).drop c).takeWhile fun x => decide (x ∈ tl z)).length) ∧ m = row.length - c') (row.length - c) ⟨rfl, c, rfl, hc, rfl, rfl⟩ ?_
    rintro m Γ' M' ⟨rfl, c', rfl, hc', he, rfl⟩
    have ht : EvT K F [] (tTest (tOp rLtI (tVar 1) (tCB (rLenG K) (tCons (tVar 0) tNil)))) [some (.str row), some (.int c'), some (.str z)] (decide (c' < row.length)) := by
      refine et_cmp (ed_is (ed_op (ed_var rfl) (ed_cb (ea_cons (ed_var rfl) ea_nil) (cd_lenS hrow)) od_lt) ?_)
      congr 1
      exact decide_eq_decide.mpr (by omega)
    by_cases hlt : c' < row.length
    · have hl : c' < (tl row).length := by rw [← len_tl]; exact hlt
      have hx : (tl row)[c']? = some (tl row)[c'] := by simp [hl]
      have hs := skip_step (z := tl z) hx
      refine wt_pure (b := decide ((tl row)[c'] ∈ tl z)) (et_is (et_and ht fun _ => et_cmp (ed_op (ed_op (ed_var rfl) (ed_var rfl) (od_ixS hrow hx)) (ed_var rfl) od_inS)) (by rw [decide_eq_true hlt]; rfl)) ⟨fun hb => ?_, fun hb => ?_⟩
      · have hb := of_decide_eq_true hb
        rw [if_pos hb] at hs
        refine ws_aug (a := (c' : Int)) rfl (wx_pure ed_int ⟨1, rfl, row.length - (c' + 1), by omega, rfl, c' + 1, rfl, by omega, by omega, rfl⟩)
      · have hb := of_decide_eq_false hb
        rw [if_neg hb] at hs
        refine ⟨rfl, ?_⟩
        rw [← he, hs]
        rfl
    · refine wt_pure (b := false) (et_is (et_and (b := true) ht fun h => absurd (of_decide_eq_true h) hlt) (by rw [decide_eq_false hlt]; rfl)) ⟨fun h => (nomatch h), fun _ => ⟨rfl, ?_⟩⟩
      rw [← he, List.drop_of_length_le (by rw [← len_tl]; omega)]
      rfl
  · rintro Γ' M' ⟨rfl, rfl⟩
    walk_at "ret"
    exact ⟨[], [], rfl, rfl, k⟩
abbrev s_find_end : Stmt := top 26
abbrev N_find_end : List Str := ["row", "column"]
theorem sc_find_end : FnScope N_find_end ["row", "column"] (defScope s_find_end) := ⟨rfl, rfl, rfl, by decide +kernel, rfl, by decide +kernel, by decide +kernel⟩

theorem c_find_end (T : Txt K mg a) : Cal P w K mg base 2 "find_end" ["row", "column"] (spD K 2 S_find_end) := by
  have C_skip := c_skip (P := P) (w := w) (base := base) T
  refine T.d_find_end.cal fun f fd Fn => Fn.ok sc_find_end (fun vs H Q E h => spD_len h) (fun cdv A outer s H vs Q E HR h => ⟨_, (pss_cons (ps_if (pt_cmpR (op_inG (K := K) rfl (room65 HR)) (pe_ix (ix_G (K := K) rfl) (pv 0) (pv 1) (fun _ _ => rfl)) (pe_cst rfl T.c_LETTERS) (by rfl)) (pss_one (ps_ret (pe_cal C_skip (HR.mono (by decide)) rfl (pa_cons (pv 0) (pa_cons (pv 1) (pa_cons (pe_cst rfl T.c_LETTERS) pa_nil)))))) pss_nil)
        (pss_cons (ps_if (pt_cmpR (op_inG (K := K) rfl (room65 HR)) (pe_ix (ix_G (K := K) rfl) (pv 0) (pv 1) (fun _ _ => rfl)) (pe_cst rfl T.c_DIGITS) (by rfl)) (pss_one (ps_ret (pe_cal C_skip (HR.mono (by decide)) rfl (pa_cons (pv 0) (pa_cons (pv 1) (pa_cons (pe_cst rfl T.c_DIGITS) pa_nil)))))) pss_nil)
        (pss_cons (ps_if (pt_cmpR (op_eqG (K := K) rfl HR.units) (pe_slice (sl_G (K := K) rfl) (pv 0) (po_some (pv 1)) (po_some (pe_op (op_addG (K := K) rfl) (pv 1) pe_int))) pe_str (nomark _)) (pss_one (ps_ret (pe_op (op_addG (K := K) rfl) (pv 1) pe_int))) pss_nil)
        (pss_one (ps_ret (pe_op (op_addG (K := K) rfl) (pv 1) pe_int)))))), body h (by decide) fun F M ds R hS hl => ?_⟩)
  obtain ⟨row, c, rfl, rfl, hrow, hc, k⟩ := hS
  try dsimp only [cxOf, Cx.nox, Cx.wish]
  walk_at "nrm"
  have hl : c < (tl row).length := by rw [← len_tl]; exact hc
  have hx : (tl row)[c]? = some (tl row)[c] := by simp [hl]
  have hat : EvD K F [] (tOp (rIxG K) (tVar 0) (tVar 1)) [some (.str row), some (.int c)] (.str ⟨#[(tl row)[c]]⟩) := ed_op (ed_var rfl) (ed_var rfl) (od_ixS hrow hx)
  have hf : findEnd (tl row) c = if isLo (tl row)[c] then c + (((tl row).drop c).takeWhile isLo).length else if isDg (tl row)[c] then c + (((tl row).drop c).takeWhile isDg).length else if ((tl row).drop c).take 2 = [45, 62] then c + 2 else c + 1 := by
    unfold findEnd
    rw [hx]
  refine ws_seq (ws_if (wt_pure (b := isLo (tl row)[c]) (et_cmp (ed_op hat (ed_c fun _ => .str _) od_inS)) ⟨fun hb => ?_, fun hb => ws_next ?_⟩))
  · refine ws_ret (wx_call0 (wa_pure (ea_cons (ed_var rfl) (ea_cons (ed_var rfl) (ea_cons (ed_c fun _ => .str _) ea_nil))) ⟨rfl, row, c, _, rfl, rfl, hrow, by omega, ⟨[], [], rfl, rfl, ?_⟩⟩))
    rw [hf, if_pos hb] at k
    exact k
  rw [hf, hb, if_neg (by decide)] at k
  refine ws_seq (ws_if (wt_pure (b := isDg (tl row)[c]) (et_cmp (ed_op hat (ed_c fun _ => .str _) od_inS)) ⟨fun hb => ?_, fun hb => ws_next ?_⟩))
  · refine ws_ret (wx_call0 (wa_pure (ea_cons (ed_var rfl) (ea_cons (ed_var rfl) (ea_cons (ed_c fun _ => .str _) ea_nil))) ⟨rfl, row, c, _, rfl, rfl, hrow, by omega, ⟨[], [], rfl, rfl, ?_⟩⟩))
    rw [if_pos hb] at k
    exact k
  rw [hb, if_neg (by decide)] at k
  have hcut : tl (cutS row (some (c : Int)) (some ((c : Int) + 2))) = ((tl row).drop c).take 2 := by
    have e2 : (c : Int) + 2 = ((c + 2 : Nat) : Int) := by omega
    rw [e2]
    show ((tl row).drop (HT.sIx row.length 0 (some (c : Int)))).take (HT.sIx row.length row.length (some ((c + 2 : Nat) : Int)) - HT.sIx row.length 0 (some (c : Int))) = _
    have hm1 : min c row.length = c := Nat.min_eq_left (by omega)
    rw [HT.sIx_nat, HT.sIx_nat, hm1]
    by_cases h2 : c + 2 ≤ row.length
    · rw [Nat.min_eq_left h2]
      congr 1; omega
    · rw [Nat.min_eq_right (by omega)]
      have hd : ((tl row).drop c).length = row.length - c := by rw [List.length_drop, ← len_tl]
      rw [List.take_of_length_le (by omega), List.take_of_length_le (by omega)]
  refine ws_seq (ws_if (wt_pure (b := decide (((tl row).drop c).take 2 = [45, 62])) (et_cmp (ed_is (ed_op (ed_slS hrow (ed_var rfl) (eo_some (ed_var rfl)) (eo_some (ed_op (ed_var rfl) ed_int od_addI))) ed_str od_eqS) ?_)) ⟨fun hb => ?_, fun hb => ws_next ?_⟩))
  · congr 1
    refine decide_eq_decide.mpr ⟨fun h => ?_, fun h => ?_⟩
    · rw [← hcut, h]; rfl
    · refine ext_tl ?_
      rw [hcut, h]; rfl
  · rw [if_pos (of_decide_eq_true hb)] at k
    refine ws_ret (wx_pure (ed_is (ed_op (ed_var rfl) ed_int od_addI) ?_) ⟨[], [], rfl, rfl, k⟩)
    congr 1
  · rw [if_neg (of_decide_eq_false hb)] at k
    refine ws_ret (wx_pure (ed_is (ed_op (ed_var rfl) ed_int od_addI) ?_) ⟨[], [], rfl, rfl, k⟩)
    congr 1
abbrev s_is_word : Stmt := top 29
abbrev N_is_word : List Str := ["text"]
theorem sc_is_word : FnScope N_is_word ["text"] (defScope s_is_word) := ⟨rfl, rfl, rfl, by decide +kernel, rfl, by decide +kernel, by decide +kernel⟩

theorem c_is_word (T : Txt K mg a) : Cal P w K mg base 2 "is_word" ["text"] (spD K 1 S_is_word) := by
  have C_skip := c_skip (P := P) (w := w) (base := base) T
  refine T.d_is_word.cal fun f fd Fn => Fn.ok sc_is_word (fun vs H Q E h => spD_len h) (fun cdv A outer s H vs Q E HR h => ⟨_, (pss_one (ps_ret (pe_and (pe_chain op_leG op_leG pe_int (pe_callB (call_lenG (K := K) rfl) rfl T.b_len (by decide +kernel) (pa_cons (pv 0) pa_nil)) (pe_cst rfl T.c_LONGEST_WORD)) (pe_one (pe_cmpR (op_eqG (K := K) rfl HR.units) (pe_cal C_skip (HR.mono (by decide)) rfl (pa_cons (pv 0) (pa_cons pe_int (pa_cons (pe_cst rfl T.c_LETTERS) pa_nil)))) (pe_callB (call_lenG (K := K) rfl) rfl T.b_len (by decide +kernel) (pa_cons (pv 0) pa_nil)) (nomark _)))))), body h (by decide) fun F M ds R hS hl => ?_⟩)
  obtain ⟨x, rfl, rfl, hx, k⟩ := hS
  try dsimp only [cxOf, Cx.nox, Cx.wish]
  walk_at "nrm"
  refine ws_ret (wx_pure (ed_is (ed_and (a := decide (1 ≤ x.length) && decide (x.length ≤ 8)) (b := decide (((tl x).takeWhile isLo).length = x.length)) ?_ fun _ => ?_) rfl) ⟨[], [], rfl, rfl, k⟩)
  · refine ed_is (ed_chain ed_int (ed_cb (ea_cons (ed_var rfl) ea_nil) (cd_lenS hx)) od_le (fun _ => ed_c fun _ => .int _) (fun _ => od_le)) ?_
    congr 2
    · exact decide_eq_decide.mpr (by omega)
    · exact decide_eq_decide.mpr (by omega)
  · refine ed_is (ed_op (x := .int ((0 + (((tl x).drop 0).takeWhile isLo).length : Nat) : Int)) (ed_call (ea_cons (ed_var rfl) (ea_cons ed_int (ea_cons (ed_c fun _ => .str _) ea_nil))) rfl ⟨x, 0, _, rfl, rfl, hx, Nat.zero_le _, rfl, rfl⟩) (ed_cb (ea_cons (ed_var rfl) ea_nil) (cd_lenS hx)) od_eqI) ?_
    congr 1
    refine decide_eq_decide.mpr ?_
    rw [List.drop_zero, Nat.zero_add]
    omega
abbrev s_is_number : Stmt := top 30
abbrev N_is_number : List Str := ["text"]
theorem sc_is_number : FnScope N_is_number ["text"] (defScope s_is_number) := ⟨rfl, rfl, rfl, by decide +kernel, rfl, by decide +kernel, by decide +kernel⟩

theorem c_is_number (T : Txt K mg a) : Cal P w K mg base 2 "is_number" ["text"] (spD K 1 S_is_number) := by
  have C_skip := c_skip (P := P) (w := w) (base := base) T
  refine T.d_is_number.cal fun f fd Fn => Fn.ok sc_is_number (fun vs H Q E h => spD_len h) (fun cdv A outer s H vs Q E HR h => ⟨_, (pss_cons (ps_if (PW.pt (pw_or (pt_not (pt_chain op_leG op_leG pe_int (pe_callB (call_lenG (K := K) rfl) rfl T.b_len (by decide +kernel) (pa_cons (pv 0) pa_nil)) (pe_cst rfl T.c_LONGEST_NUMBER))) (pw_or1 (pt_cmpR op_ltG (pe_cal C_skip (HR.mono (by decide)) rfl (pa_cons (pv 0) (pa_cons pe_int (pa_cons (pe_cst rfl T.c_DIGITS) pa_nil)))) (pe_callB (call_lenG (K := K) rfl) rfl T.b_len (by decide +kernel) (pa_cons (pv 0) pa_nil)) (nomark _))))) (pss_one (ps_ret pe_bl)) pss_nil)
        (pss_one (ps_ret (pe_or (pe_cmpR (op_eqG (K := K) rfl HR.units) (pv 0) pe_str (nomark _)) (pe_one (pe_cmpR (op_neG (K := K) rfl HR.units) (pe_ix (ix_G (K := K) rfl) (pv 0) pe_int (fun _ _ => rfl)) pe_str (nomark _))))))), body h (by decide) fun F M ds R hS hl => ?_⟩)
  obtain ⟨x, rfl, rfl, hx, k⟩ := hS
  try dsimp only [cxOf, Cx.nox, Cx.wish]
  walk_at "nrm"
  refine ws_seq (ws_if (wt_pure (b := (!(decide (1 ≤ x.length) && decide (x.length ≤ 3))) || decide (((tl x).takeWhile isDg).length < x.length)) (et_or (et_not (et_is (et_cmp (ed_chain ed_int (ed_cb (ea_cons (ed_var rfl) ea_nil) (cd_lenS hx)) od_le (fun _ => ed_c fun _ => .int _) (fun _ => od_le))) ?_)) fun _ => et_cmp (ed_is (ed_op (x := .int ((0 + (((tl x).drop 0).takeWhile isDg).length : Nat) : Int)) (ed_call (ea_cons (ed_var rfl) (ea_cons ed_int (ea_cons (ed_c fun _ => .str _) ea_nil))) rfl ⟨x, 0, _, rfl, rfl, hx, Nat.zero_le _, rfl, rfl⟩) (ed_cb (ea_cons (ed_var rfl) ea_nil) (cd_lenS hx)) od_lt) ?_)) ⟨fun hb => ?_, fun hb => ws_next ?_⟩))
  · congr 1
    · exact decide_eq_decide.mpr (by omega)
    · exact decide_eq_decide.mpr (by omega)
  · congr 1
    refine decide_eq_decide.mpr ?_
    rw [List.drop_zero, Nat.zero_add]
    omega
  · have e : isNum x = false := by unfold isNum; rw [if_pos hb]
    rw [e] at k
    exact ws_ret (wx_pure ed_bl ⟨[], [], rfl, rfl, k⟩)
  · have e : isNum x = (decide (x = "0") || !decide ((tl x)[0]? = some 48)) := by unfold isNum; rw [hb]; rfl
    rw [e] at k
    have h0' : 0 < (tl x).length := by
      rw [← len_tl]
      have h1 := (Bool.or_eq_false_iff.mp hb).1
      rw [Bool.not_eq_false', Bool.and_eq_true_iff] at h1
      have := of_decide_eq_true h1.1
      omega
    have hx0 : (tl x)[0]? = some (tl x)[0] := by simp [h0']
    refine ws_ret (wx_pure (ed_or (ed_op (ed_var rfl) ed_str od_eqS) fun _ => ed_is (ed_op (ed_op (ed_var rfl) ed_int (od_ixS (j := 0) hx hx0)) ed_str od_neS) ?_) ⟨[], [], rfl, rfl, k⟩)
    congr 2
    refine decide_eq_decide.mpr ⟨fun h => ?_, fun h => ?_⟩
    · rw [hx0]
      have := congrArg tl h
      have : [(tl x)[0]] = [48] := this
      rw [(List.cons.inj this).1]
    · rw [hx0] at h
      refine ext_tl ?_
      show [(tl x)[0]] = [48]
      rw [Option.some.inj h]
abbrev s_find_kind : Stmt := top 28
abbrev N_find_kind : List Str := ["text"]
theorem sc_find_kind : FnScope N_find_kind ["text"] (defScope s_find_kind) := ⟨rfl, rfl, rfl, by decide +kernel, rfl, by decide +kernel, by decide +kernel⟩

theorem c_find_kind (T : Txt K mg a) : Cal P w K mg base 3 "find_kind" ["text"] (spD K 1 S_find_kind) := by
  have C_is_number := c_is_number (P := P) (w := w) (base := base) T
  have C_is_word := c_is_word (P := P) (w := w) (base := base) T
  refine T.d_find_kind.cal fun f fd Fn => Fn.ok sc_find_kind (fun vs H Q E h => spD_len h) (fun cdv A outer s H vs Q E HR h => ⟨_, (pss_cons (ps_if (PW.pt (pw_or (pt_cmpR (op_inG (K := K) rfl (room65 HR)) (pv 0) (pe_tc (K := K) (mg := mg) rfl rfl T.c_KEYWORDS) (by rfl)) (pw_or1 (pt_cmpR (op_inG (K := K) rfl (room65 HR)) (pv 0) (pe_tc (K := K) (mg := mg) rfl rfl T.c_SIGNS) (by rfl))))) (pss_one (ps_ret (pv 0))) pss_nil)
        (pss_cons (ps_if (pt_cmpR (op_inG (K := K) rfl (room65 HR)) (pv 0) (pe_tc (K := K) (mg := mg) rfl rfl T.c_REGISTERS) (by rfl)) (pss_one (ps_ret pe_str)) pss_nil)
        (pss_cons (ps_if (pt_tru (K := K) rfl (pe_cal C_is_word (HR.mono (by decide)) rfl (pa_cons (pv 0) pa_nil))) (pss_one (ps_ret pe_str)) pss_nil)
        (pss_cons (ps_if (pt_tru (K := K) rfl (pe_cal C_is_number (HR.mono (by decide)) rfl (pa_cons (pv 0) pa_nil))) (pss_one (ps_ret pe_str)) pss_nil)
        (pss_one (ps_ret pe_non)))))), body h (by decide) fun F M ds R hS hl => ?_⟩)
  obtain ⟨x, rfl, rfl, hx, k⟩ := hS
  try dsimp only [cxOf, Cx.nox, Cx.wish]
  walk_at "nrm"
  refine ws_seq (ws_if (wt_pure (b := decide (x ∈ kws) || decide (x ∈ sgs)) (et_or (et_cmp (ed_op (ed_var rfl) ed_tc (od_inT (ys := kws)))) fun _ => et_cmp (ed_op (ed_var rfl) ed_tc (od_inT (ys := sgs)))) ⟨fun hb => ?_, fun hb => ws_next ?_⟩))
  · have e : kindOf x = some x := by
      unfold kindOf
      rw [if_pos]
      rcases Bool.or_eq_true_iff.mp hb with h | h
      · exact .inl (of_decide_eq_true h)
      · exact .inr (of_decide_eq_true h)
    rw [e] at k
    exact ws_ret (wx_pure (ed_var rfl) ⟨[], [], rfl, rfl, k⟩)
  have hn : ¬ (x ∈ kws ∨ x ∈ sgs) := by
    obtain ⟨a, b⟩ := Bool.or_eq_false_iff.mp hb
    exact fun h => h.elim (of_decide_eq_false a) (of_decide_eq_false b)
  refine ws_seq (ws_if (wt_pure (b := decide (x ∈ rgs)) (et_cmp (ed_op (ed_var rfl) ed_tc (od_inT (ys := rgs)))) ⟨fun hb => ?_, fun hb => ws_next ?_⟩))
  · have e : kindOf x = some ("letter" : Str) := by
      unfold kindOf
      rw [if_neg hn, if_pos (of_decide_eq_true hb)]
    rw [e] at k
    exact ws_ret (wx_pure ed_str ⟨[], [], rfl, rfl, k⟩)
  have hn2 := of_decide_eq_false hb
  refine ws_seq (ws_if (wt_pure (b := isName x) (et_tru (ed_call (d := .bl (isName x)) (ea_cons (ed_var rfl) ea_nil) rfl ⟨x, rfl, rfl, hx, rfl, rfl⟩) rfl) ⟨fun hb => ?_, fun hb => ws_next ?_⟩))
  · have e : kindOf x = some ("name" : Str) := by
      unfold kindOf
      rw [if_neg hn, if_neg hn2, if_pos hb]
    rw [e] at k
    exact ws_ret (wx_pure ed_str ⟨[], [], rfl, rfl, k⟩)
  have hn3 : ¬ isName x = true := by rw [hb]; decide
  refine ws_seq (ws_if (wt_pure (b := isNum x) (et_tru (ed_call (d := .bl (isNum x)) (ea_cons (ed_var rfl) ea_nil) rfl ⟨x, rfl, rfl, hx, rfl, rfl⟩) rfl) ⟨fun hb => ?_, fun hb => ws_next ?_⟩))
  · have e : kindOf x = some ("number" : Str) := by
      unfold kindOf
      rw [if_neg hn, if_neg hn2, if_neg hn3, if_pos hb]
    rw [e] at k
    exact ws_ret (wx_pure ed_str ⟨[], [], rfl, rfl, k⟩)
  · have e : kindOf x = none := by
      unfold kindOf
      rw [if_neg hn, if_neg hn2, if_neg hn3, if_neg (by rw [hb]; decide)]
    rw [e] at k
    exact ws_ret (wx_pure ed_non ⟨[], [], rfl, rfl, k⟩)
abbrev s_Token_init : Stmt := inClass (top 23) 0
abbrev N_Token_init : List Str := ["self", "kind", "text", "line", "column"]
theorem sc_Token_init : FnScope N_Token_init ["self", "kind", "text", "line", "column"] (defScope s_Token_init) := ⟨rfl, rfl, rfl, by decide +kernel, rfl, by decide +kernel, by decide +kernel⟩

theorem c_Token_init (T : Txt K mg a) : CalK P w K mg base 1 "Token" a.token ["self", "kind", "text", "line", "column"] (spD K 5 (S_Token_init a)) := by
  refine T.k_Token.cal fun f fd Fn => Fn.ok sc_Token_init (fun vs H Q E h => spD_len h) (fun cdv A outer s H vs Q E HR h => ⟨_, (pss_cons (ps_fld (pv 0) (pv 1) rfl)
        (pss_cons (ps_fld (pv 0) (pv 2) rfl)
        (pss_cons (ps_fld (pv 0) (pv 3) rfl)
        (pss_one (ps_fld (pv 0) (pv 4) rfl))))), body h (by decide) fun F M ds R hS hl => ?_⟩)
  obtain ⟨p, kd, x, l, c, rfl, rfl, k⟩ := hS
  try dsimp only [cxOf, Cx.nox, Cx.wish]
  walk_at "nrm"
  have hc := T.k_Token.cl
  refine ws_seq (ws_fld (p := p) (wx_pure (ed_var rfl) ⟨ed_var rfl, hc, T.k_Token.na _ (by simp), 0, _, rfl, by simp, ?_⟩))
  refine ws_seq (ws_fld (p := p) (wx_pure (ed_var rfl) ⟨ed_var rfl, hc, T.k_Token.na _ (by simp), 0, _, rfl, Nat.le_of_ble_eq_true rfl, ?_⟩))
  refine ws_seq (ws_fld (p := p) (wx_pure (ed_var rfl) ⟨ed_var rfl, hc, T.k_Token.na _ (by simp), 0, _, rfl, Nat.le_of_ble_eq_true rfl, ?_⟩))
  refine ws_fld (p := p) (wx_pure (ed_var rfl) ⟨ed_var rfl, hc, T.k_Token.na _ (by simp), 0, _, rfl, Nat.le_of_ble_eq_true rfl, ?_⟩)
  exact ⟨[], _, rfl, rfl, k⟩
theorem cut_sub (l : List Nat) (row : Str) (e : tl row = l) (c d : Nat) (hc : c ≤ d) (hd : d ≤ row.length) : tl (cutS row (some (c : Int)) (some (d : Int))) = (l.drop c).take (d - c) := by
  subst e
  show ((tl row).drop (HT.sIx row.length 0 (some (c : Int)))).take (HT.sIx row.length row.length (some (d : Int)) - HT.sIx row.length 0 (some (c : Int))) = _
  have hm1 : min c row.length = c := Nat.min_eq_left (by omega)
  have hm2 : min d row.length = d := Nat.min_eq_left (by omega)
  rw [HT.sIx_nat, HT.sIx_nat, hm1, hm2]

abbrev s_read_row : Stmt := top 25
abbrev N_read_row : List Str := ["row", "line", "tokens", "column", "end", "text", "kind"]
theorem sc_read_row : FnScope N_read_row ["row", "line"] (defScope s_read_row) := ⟨rfl, rfl, rfl, by decide +kernel, rfl, by decide +kernel, by decide +kernel⟩

theorem c_read_row (T : Txt K mg a) : Cal P w K mg base 4 "read_row" ["row", "line"] (spD K 2 (S_read_row a)) := by
  have C_Token_init := c_Token_init (P := P) (w := w) (base := base) T
  have C_find_end := c_find_end (P := P) (w := w) (base := base) T
  have C_find_kind := c_find_kind (P := P) (w := w) (base := base) T
  refine T.d_read_row.cal fun f fd Fn => Fn.ok sc_read_row (fun vs H Q E h => spD_len h) (fun cdv A outer s H vs Q E HR h => ⟨_, (pss_cons (ps_set (i := 2) sc_read_row.nd rfl (Or.inl rfl) (pe_lst pa_nil))
        (pss_cons (ps_set (i := 3) sc_read_row.nd rfl (Or.inl rfl) pe_int)
        (pss_cons (ps_while PassesOwn.never (pt_cmpR op_ltG (pv 3) (pe_callB (call_lenG (K := K) rfl) rfl T.b_len (by decide +kernel) (pa_cons (pv 0) pa_nil)) (nomark _)) (pss_cons (ps_if (pt_cmpR (op_eqG (K := K) rfl HR.units) (pe_ix (ix_G (K := K) rfl) (pv 0) (pv 3) (fun _ _ => rfl)) pe_str (nomark _)) (pss_cons (ps_aug (i := 3) sc_read_row.nd rfl (Or.inl rfl) pe_int ip_add)
        (pss_one ps_continue)) pss_nil)
        (pss_cons (ps_set (i := 4) sc_read_row.nd rfl (Or.inl rfl) (pe_cal C_find_end (HR.mono (by decide)) rfl (pa_cons (pv 0) (pa_cons (pv 3) pa_nil))))
        (pss_cons (ps_set (i := 5) sc_read_row.nd rfl (Or.inl rfl) (pe_slice (sl_G (K := K) rfl) (pv 0) (po_some (pv 3)) (po_some (pv 4))))
        (pss_cons (ps_set (i := 6) sc_read_row.nd rfl (Or.inl rfl) (pe_cal C_find_kind (HR.mono (by decide)) rfl (pa_cons (pv 5) pa_nil)))
        (pss_cons (ps_if (pt_cmpR op_isG (pv 6) pe_non (nomark _)) (pss_one ps_never) pss_nil)
        (pss_cons (ps_expr (pe_bm PySem.F.plainAttrs_list PySem.F.slot_list_append PySem.F.type_list_append mt_append (pv 2) (pa_cons (pe_mk C_Token_init (HR.mono (by decide)) rfl (pa_cons (pv 6) (pa_cons (pv 5) (pa_cons (pv 1) (pa_cons (pv 3) pa_nil))))) pa_nil)))
        (pss_one (ps_set (i := 3) sc_read_row.nd rfl (Or.inl rfl) (pv 4))))))))))
        (pss_one (ps_ret (pv 2)))))), body h (by decide) fun F M ds R hS hl => ?_⟩)
  obtain ⟨row, ln, ts, rfl, rfl, hrow, hts, k⟩ := hS
  try dsimp only [cxOf, Cx.nox, Cx.wish]
  walk_at "nrm"
  have hrow' : row.length ≤ 1000000 := by omega
  refine ws_seq (ws_new (en_lst ea_nil (Nat.zero_le _)) fun p hp => ?_)
  refine ws_seq (ws_asg (wx_pure ed_int ?_))
  walk_at "nrm"
  have hpn : p ∉ ([] : List Addr) := fun z => nomatch z
  refine ws_cut (fun Γ' M' => M' = [(p, .lst (ts.map (eT a)))] ∧ ∃ c3 c4 c5 c6, Γ' = [some (.str row), some (.int ln), some (.adr p), c3, c4, c5, c6]) ?_ ?_
  · refine ws_while (fun m Γ' M' => ∃ (c : Nat) (pre post : List Tk) (c4 c5 c6 : Option Dv), M' = [(p, .lst (pre.map (eT a)))] ∧ Γ' = [some (.str row), some (.int ln), some (.adr p), some (.int c), c4, c5, c6] ∧ c ≤ row.length ∧ m = row.length - c ∧ lexRow (tl row) ln m c = some post ∧ ts = pre ++ post ∧ pre.length ≤ c) row.length ⟨0, [], ts, none, none, none, rfl, rfl, Nat.zero_le _, rfl, hts, rfl, Nat.zero_le _⟩ ?_
    rintro m Γ' M' ⟨c, pre, post, c4, c5, c6, rfl, rfl, hc, rfl, hlex, rfl, hpre⟩
    refine wt_pure (b := decide (c < row.length)) (et_cmp (ed_is (ed_op (ed_var rfl) (ed_cb (ea_cons (ed_var rfl) ea_nil) (cd_lenS hrow')) od_lt) ?_)) ⟨fun hb => ?_, fun hb => ?_⟩
    · congr 1
      exact decide_eq_decide.mpr (by omega)
    · have hlt := of_decide_eq_true hb
      have hl : c < (tl row).length := by rw [← len_tl]; exact hlt
      have hx : (tl row)[c]? = some (tl row)[c] := by simp [hl]
      obtain ⟨g, hg⟩ : ∃ g, row.length - c = g + 1 := ⟨row.length - c - 1, by omega⟩
      rw [hg] at hlex
      simp only [lexRow, if_pos hl] at hlex
      refine ws_seq (ws_if (wt_pure (b := decide ((tl row)[c]? = some 32)) (et_cmp (ed_is (ed_op (ed_op (ed_var rfl) (ed_var rfl) (od_ixS hrow' hx)) ed_str od_eqS) ?_)) ⟨fun hb => ?_, fun hb => ws_next ?_⟩))
      · congr 1
        rw [hx]
        refine decide_eq_decide.mpr ⟨fun h => ?_, fun h => ?_⟩
        · have : [(tl row)[c]] = [32] := congrArg tl h
          rw [(List.cons.inj this).1]
        · refine ext_tl ?_
          show [(tl row)[c]] = [32]
          rw [Option.some.inj h]
      · rw [if_pos (of_decide_eq_true hb)] at hlex
        refine ws_seq (ws_aug (a := (c : Int)) rfl (wx_pure ed_int ⟨1, rfl, ?_⟩))
        walk_at "nrm"
        refine ws_cont ⟨row.length - (c + 1), by omega, c + 1, pre, post, c4, c5, c6, rfl, rfl, by omega, rfl, ?_, rfl, by omega⟩
        have : row.length - (c + 1) = g := by omega
        rw [this]; exact hlex
      · rw [if_neg (of_decide_eq_false hb)] at hlex
        have hgt := findEnd_gt hl
        have hle := findEnd_le hl
        rw [← len_tl] at hle
        have ecut : cutS row (some (c : Int)) (some (findEnd (tl row) c : Nat)) = mk (((tl row).drop c).take (findEnd (tl row) c - c)) := ext_tl (by rw [cut_sub _ row rfl c _ (by omega) hle]; rfl)
        have hlen0 : (mk (((tl row).drop c).take (findEnd (tl row) c - c))).length = findEnd (tl row) c - c := by
          rw [mk_len, List.length_take, List.length_drop, ← len_tl]
          omega
        cases hk : kindOf (mk (((tl row).drop c).take (findEnd (tl row) c - c))) with
        | none => rw [hk] at hlex; cases hlex
        | some kd =>
        rw [hk] at hlex
        cases hr : lexRow (tl row) ln g (findEnd (tl row) c) with
        | none => rw [hr] at hlex; cases hlex
        | some rest =>
        rw [hr] at hlex
        cases hlex
        refine ws_seq (ws_asg (wx_pure (ed_call (ea_cons (ed_var rfl) (ea_cons (ed_var rfl) ea_nil)) rfl ⟨row, c, rfl, rfl, hrow', hlt, rfl, rfl⟩) ?_))
        walk_at "nrm"
        refine ws_seq (ws_asg (wx_pure (ed_is (ed_slS hrow' (ed_var rfl) (eo_some (ed_var rfl)) (eo_some (ed_var rfl))) (congrArg Dv.str ecut)) ?_))
        walk_at "nrm"
        refine ws_seq (ws_asg (wx_pure (d := .str kd) (ed_call (ea_cons (ed_var rfl) ea_nil) rfl ⟨_, rfl, rfl, by omega, by rw [hk]; rfl, rfl⟩) ?_))
        walk_at "nrm"
        refine ws_seq (ws_if (wt_pure (b := false) (et_cmp (ed_op (ed_var rfl) ed_non od_isN)) ⟨fun h => (nomatch h), fun _ => ws_next ?_⟩))
        refine ws_seq (ws_app (ed_var rfl) ⟨_, List.mem_singleton.mpr rfl⟩ (wx_frzI (wx_mkM (wa_pure (ea_cons (ed_var rfl) (ea_cons (ed_var rfl) (ea_cons (ed_var rfl) (ea_cons (ed_var rfl) ea_nil)))) ⟨rfl, fun q => ⟨q, _, _, _, _, rfl, rfl, _, rfl, rfl, fun hq => ⟨q, _, _, _, rfl, rfl, 0, _, rfl, ?_, ?_⟩⟩⟩))))
        · rw [List.length_map]; omega
        refine ws_asg (wx_pure (ed_var rfl) ?_)
        walk_at "nrm"
        refine ⟨row.length - findEnd (tl row) c, by omega, findEnd (tl row) c, pre ++ [⟨kd, mk (((tl row).drop c).take (findEnd (tl row) c - c)), ln, c⟩], rest, _, _, _, ?_, rfl, hle, rfl, ?_, by rw [List.append_assoc]; rfl, by rw [List.length_append]; show pre.length + 1 ≤ _; omega⟩
        · rw [List.map_append]
          rfl
        · have hgg : (tl row).length ≤ findEnd (tl row) c + g := by rw [← len_tl]; omega
          rw [lexRow_fuel g _ hgg] at hr
          rw [len_tl]
          exact hr
    · have hge := of_decide_eq_false hb
      have : row.length - c = 0 := by omega
      rw [this] at hlex
      cases hlex
      rw [List.append_nil]
      exact ⟨rfl, _, c4, c5, c6, rfl⟩
  · rintro Γ' M' ⟨rfl, c3, c4, c5, c6, rfl⟩
    exact ws_ret (wx_frz (wx_pure (ed_var rfl) ⟨p, _, [], rfl, rfl, hpn, [], [], rfl, rfl, k⟩))
abbrev s_read_tokens : Stmt := top 24
abbrev N_read_tokens : List Str := ["text", "rows", "tokens", "line", "row"]
theorem sc_read_tokens : FnScope N_read_tokens ["text"] (defScope s_read_tokens) := ⟨rfl, rfl, rfl, by decide +kernel, rfl, by decide +kernel, by decide +kernel⟩

theorem c_read_tokens (T : Txt K mg a) : Cal P w K mg base 5 "read_tokens" ["text"] (spD K 1 (S_read_tokens a)) := by
  have C_Token_init := c_Token_init (P := P) (w := w) (base := base) T
  have C_read_row := c_read_row (P := P) (w := w) (base := base) T
  refine T.d_read_tokens.cal fun f fd Fn => Fn.ok sc_read_tokens (fun vs H Q E h => spD_len h) (fun cdv A outer s H vs Q E HR h => ⟨_, (pss_cons (ps_set (i := 1) sc_read_tokens.nd rfl (Or.inl rfl) (pe_bm PySem.F.plainAttrs_str PySem.F.slot_str_split PySem.F.type_str_split mt_splitG (pv 0) (pa_cons pe_str pa_nil)))
        (pss_cons (ps_set (i := 2) sc_read_tokens.nd rfl (Or.inl rfl) (pe_lst pa_nil))
        (pss_cons (ps_for PassesOwn.never rfl (pi_enum rfl T.b_enumerate (pa_cons (pv 1) pa_nil)) (pg_tup (n := 2) rfl (pgs_cons (pg_name (i := 3) sc_read_tokens.nd rfl (Or.inl rfl)) (pgs_cons (pg_name (i := 4) sc_read_tokens.nd rfl (Or.inl rfl)) pgs_nil))) (pss_one (ps_expr (pe_bm PySem.F.plainAttrs_list PySem.F.slot_list_extend PySem.F.type_list_extend mt_extend (pv 2) (pa_cons (pe_cal C_read_row (HR.mono (by decide)) rfl (pa_cons (pv 4) (pa_cons (pv 3) pa_nil))) pa_nil)))))
        (pss_cons (ps_expr (pe_bm PySem.F.plainAttrs_list PySem.F.slot_list_append PySem.F.type_list_append mt_append (pv 2) (pa_cons (pe_mk C_Token_init (HR.mono (by decide)) rfl (pa_cons pe_str (pa_cons pe_str (pa_cons (pe_callB (call_lenG (K := K) rfl) rfl T.b_len (by decide +kernel) (pa_cons (pv 1) pa_nil)) (pa_cons pe_int pa_nil))))) pa_nil)))
        (pss_one (ps_ret (pv 2))))))), body h (by decide) fun F M ds R hS hl => ?_⟩)
  obtain ⟨x, ts, rfl, rfl, hx, hrows, hlex, htl, k⟩ := hS
  try dsimp only [cxOf, Cx.nox, Cx.wish]
  walk_at "nrm"
  unfold lexT at hlex
  generalize hr : Txt.split x "\n" = rows at *
  cases hlr : lexRows rows 0 with
  | none => rw [hlr] at hlex; cases hlex
  | some us =>
  rw [hlr] at hlex
  cases hlex
  rw [List.length_append] at htl
  have hrl : ∀ (rs : List Str), rs.length ≤ 1000000 ∨ True := fun _ => .inr trivial
  refine ws_seq (ws_asg (wx_pure (d := .lst (rows.map Dv.str)) (by rw [← hr]; exact ed_new (en_split (ed_var rfl) ed_str (by decide +kernel) (by omega))) ?_))
  refine ws_seq (ws_new (en_lst ea_nil (Nat.zero_le _)) fun p hp => ?_)
  walk_at "nrm"
  have hpn : p ∉ ([] : List Addr) := fun z => nomatch z
  refine ws_cut (fun Γ' M' => M' = [(p, .lst (us.map (eT a)))] ∧ ∃ c3 c4, Γ' = [some (.str x), some (.lst (rows.map Dv.str)), some (.adr p), c3, c4]) ?_ ?_
  · refine ws_forE (ea_cons (ed_var rfl) ea_nil) (fun i Γ' M' => ∃ (b : List Tk) (c3 c4 : Option Dv), lexRows (rows.take i) 0 = some b ∧ M' = [(p, .lst (b.map (eT a)))] ∧ Γ' = [some (.str x), some (.lst (rows.map Dv.str)), some (.adr p), c3, c4]) ⟨[], none, none, rfl, rfl, rfl⟩ ?_ ?_
    · rintro i e Γ' M' he ⟨b, c3, c4, hb, rfl, rfl⟩
      rw [List.getElem?_map] at he
      cases hri : rows[i]? with
      | none => rw [hri] at he; cases he
      | some row =>
      rw [hri] at he
      cases he
      have hi := (List.getElem?_eq_some_iff.mp hri).1
      have e1 : rows.take (i + 1) = rows.take i ++ [row] := by rw [List.take_succ, hri]; rfl
      have e2 : rows = rows.take (i + 1) ++ rows.drop (i + 1) := (List.take_append_drop ..).symm
      have hall := hlr
      rw [e2] at hall
      obtain ⟨u, v, h1, h2, h3⟩ := lexRows_app _ _ _ _ hall
      rw [e1] at h1
      obtain ⟨u1, u2, h4, h5, rfl⟩ := lexRows_app _ _ _ _ h1
      rw [hb] at h4
      cases h4
      have hti : 0 + (rows.take i).length = i := by rw [List.length_take]; omega
      rw [hti] at h5
      simp only [lexRows] at h5
      cases h6 : lexRow (tl row) i row.length 0 with
      | none => rw [h6] at h5; cases h5
      | some w1 =>
      rw [h6] at h5
      cases h5
      have hlen : b.length + (w1 ++ []).length ≤ 50000 := by
        have := congrArg List.length h3
        rw [List.length_append, List.length_append] at this
        omega
      refine ⟨_, tg_stp (tgs_cons tg_name (tgs_cons tg_name tgs_nil)) rfl, ?_⟩
      walk_at "nrm"
      refine ws_ext (ed_var rfl) ⟨_, List.mem_singleton.mpr rfl⟩ (wx_call0 (wa_pure (ea_cons (ed_var rfl) (ea_cons (ed_var rfl) ea_nil)) ⟨rfl, row, i, w1, rfl, rfl, hrows row (List.mem_of_getElem? hri), h6, 0, _, _, rfl, rfl, ?_, ?_⟩))
      · rw [List.length_map, List.length_map]
        rw [List.append_nil] at hlen
        omega
      · refine ⟨b ++ w1, _, _, ?_, by rw [List.map_append]; rfl, rfl⟩
        rw [e1, h1, List.append_nil]
    · rintro Γ' M' ⟨b, c3, c4, hb, rfl, rfl⟩
      rw [List.length_map, List.take_length, hlr] at hb
      cases hb
      exact ⟨rfl, c3, c4, rfl⟩
  · rintro Γ' M' ⟨rfl, c3, c4, rfl⟩
    refine ws_seq (ws_app (ed_var rfl) ⟨_, List.mem_singleton.mpr rfl⟩ (wx_frzI (wx_mkM (wa_pure (ea_cons ed_str (ea_cons ed_str (ea_cons (ed_cb (ea_cons (ed_var rfl) ea_nil) cd_lenL) (ea_cons ed_int ea_nil)))) ⟨rfl, fun q => ⟨q, _, _, _, _, rfl, rfl, _, rfl, rfl, fun hq => ⟨q, _, _, _, rfl, rfl, 0, _, rfl, ?_, ?_⟩⟩⟩))))
    · rw [List.length_map]; omega
    refine ws_ret (wx_frz (wx_pure (ed_var rfl) ⟨p, _, [], rfl, rfl, hpn, [], [], rfl, rfl, ?_⟩))
    rw [List.map_append] at k
    rw [List.length_map]
    exact k
abbrev s_Parser_init : Stmt := inClass (top 38) 0
abbrev N_Parser_init : List Str := ["self", "tokens"]
theorem sc_Parser_init : FnScope N_Parser_init ["self", "tokens"] (defScope s_Parser_init) := ⟨rfl, rfl, rfl, by decide +kernel, rfl, by decide +kernel, by decide +kernel⟩

theorem c_Parser_init (T : Txt K mg a) : CalK P w K mg base 1 "Parser" a.parser ["self", "tokens"] (spD K 2 (S_Parser_init a)) := by
  refine T.k_Parser.cal fun f fd Fn => Fn.ok sc_Parser_init (fun vs H Q E h => spD_len h) (fun cdv A outer s H vs Q E HR h => ⟨_, (pss_cons (ps_fld (pv 0) (pv 1) rfl)
        (pss_cons (ps_fld (pv 0) pe_int rfl)
        (pss_cons (ps_fld (pv 0) pe_non rfl)
        (pss_one (ps_fld (pv 0) pe_int rfl))))), body h (by decide) fun F M ds R hS hl => ?_⟩)
  obtain ⟨p, ts, rfl, rfl, k⟩ := hS
  try dsimp only [cxOf, Cx.nox, Cx.wish]
  walk_at "nrm"
  have hc := T.k_Parser.cl
  refine ws_seq (ws_fld (p := p) (wx_pure (ed_var rfl) ⟨ed_var rfl, hc, T.k_Parser.na _ (by simp), 0, _, rfl, by simp, ?_⟩))
  refine ws_seq (ws_fld (p := p) (wx_pure ed_int ⟨ed_var rfl, hc, T.k_Parser.na _ (by simp), 0, _, rfl, Nat.le_of_ble_eq_true rfl, ?_⟩))
  refine ws_seq (ws_fld (p := p) (wx_pure ed_non ⟨ed_var rfl, hc, T.k_Parser.na _ (by simp), 0, _, rfl, Nat.le_of_ble_eq_true rfl, ?_⟩))
  refine ws_fld (p := p) (wx_pure ed_int ⟨ed_var rfl, hc, T.k_Parser.na _ (by simp), 0, _, rfl, Nat.le_of_ble_eq_true rfl, ?_⟩)
  exact ⟨[], _, rfl, rfl, k⟩
abbrev s_Parser_sees : Stmt := inClass (top 38) 1
abbrev N_Parser_sees : List Str := ["self", "kind"]
theorem sc_Parser_sees : FnScope N_Parser_sees ["self", "kind"] (defScope s_Parser_sees) := ⟨rfl, rfl, rfl, by decide +kernel, rfl, by decide +kernel, by decide +kernel⟩

theorem c_Parser_sees (T : Txt K mg a) : CalM P w K mg base 1 a.parser "sees" ["self", "kind"] (spD K 2 (S_Parser_sees a)) := by
  refine T.m_Parser_sees.cal T.k_Parser.cl fun f fd Fn => Fn.ok sc_Parser_sees (fun vs H Q E h => spD_len h) (fun cdv A outer s H vs Q E HR h => ⟨_, (pss_one (ps_ret (pe_cmpR (op_eqG (K := K) rfl HR.units) (pe_fldK (K := K) rfl (pe_ix (ix_G (K := K) rfl) (pe_fldK (K := K) rfl (pv 0) rfl) (pe_fldK (K := K) rfl (pv 0) rfl) (fun _ _ => rfl)) rfl) (pv 1) (nomark _)))), body h (by decide) fun F M ds R hS hl => ?_⟩)
  obtain ⟨p, kd, s, t, rfl, rfl, ht, k⟩ := hS
  try dsimp only [cxOf, Cx.nox, Cx.wish]
  walk_at "nrm"
  have hP := T.k_Parser.cl
  have ht' : (s.ts.map (eT a))[s.i]? = some (eT a t) := by rw [List.getElem?_map, ht]; rfl
  exact ws_ret (wx_pure (ed_op (ed_fld (ed_op (ed_fldM 0 (ed_var rfl) rfl hP (T.k_Parser.na _ (by simp)) rfl) (ed_fldM 0 (ed_var rfl) rfl hP (T.k_Parser.na _ (by simp)) rfl) (od_ixL (j := s.i) ht')) T.k_Token.cl (T.k_Token.na _ (by simp)) rfl) (ed_var rfl) od_eqS) ⟨[], _, rfl, rfl, k⟩)
abbrev s_Parser_take : Stmt := inClass (top 38) 2
abbrev N_Parser_take : List Str := ["self", "kinds", "token"]
theorem sc_Parser_take : FnScope N_Parser_take ["self", "kinds"] (defScope s_Parser_take) := ⟨rfl, rfl, rfl, by decide +kernel, rfl, by decide +kernel, by decide +kernel⟩

theorem c_Parser_take (T : Txt K mg a) : CalR P w K mg base 1 a.parser "take" (spStar K 2 (S_Parser_take a)) := by
  refine T.m_Parser_take.cal T.k_Parser.cl sc_Parser_take fun f cdv A outer s H vs Q E HR h => ⟨_, (pss_cons (ps_set (i := 2) sc_Parser_take.nd rfl (Or.inl rfl) (pe_ix (ix_G (K := K) rfl) (pe_fldK (K := K) rfl (pv 0) rfl) (pe_fldK (K := K) rfl (pv 0) rfl) (fun _ _ => rfl)))
        (pss_cons (ps_if (pt_cmpR (op_ninG (K := K) rfl (room65 HR)) (pe_fldK (K := K) rfl (pv 2) rfl) (pv 1) (by rfl)) (pss_one ps_never) pss_nil)
        (pss_cons (ps_fldaug (pv 0) pe_int in_add)
        (pss_one (ps_ret (pv 2)))))), body h (by decide) fun F M ds R hS hl => ?_⟩
  obtain ⟨p, ks, s, t, rfl, rfl, ht, hk, k⟩ := hS
  try dsimp only [cxOf, Cx.nox, Cx.wish]
  walk_at "nrm"
  have hP := T.k_Parser.cl
  have ht' : (s.ts.map (eT a))[s.i]? = some (eT a t) := by rw [List.getElem?_map, ht]; rfl
  refine ws_seq (ws_asg (wx_pure (ed_op (ed_fldM 0 (ed_var rfl) rfl hP (T.k_Parser.na _ (by simp)) rfl) (ed_fldM 0 (ed_var rfl) rfl hP (T.k_Parser.na _ (by simp)) rfl) (od_ixL (j := s.i) ht')) ?_))
  walk_at "nrm"
  refine ws_seq (ws_if (wt_pure (b := false) (et_is (et_cmp (ed_op (ed_fld (ed_var rfl) T.k_Token.cl (T.k_Token.na _ (by simp)) rfl) (ed_var rfl) od_ninS)) (by rw [decide_eq_true hk]; rfl)) ⟨fun h => (nomatch h), fun _ => ws_next ?_⟩))
  refine ws_seq (ws_fldaug 0 (ed_var rfl) rfl hP (T.k_Parser.na _ (by simp)) rfl (Nat.le_of_ble_eq_true rfl) ed_int ?_)
  exact ws_ret (wx_pure (ed_var rfl) ⟨[], _, rfl, rfl, k⟩)
abbrev s_Parser_read_number : Stmt := inClass (top 38) 12
abbrev N_Parser_read_number : List Str := ["self", "reason", "least", "most", "token", "number"]
theorem sc_Parser_read_number : FnScope N_Parser_read_number ["self", "reason", "least", "most"] (defScope s_Parser_read_number) := ⟨rfl, rfl, rfl, by decide +kernel, rfl, by decide +kernel, by decide +kernel⟩

theorem c_Parser_read_number (T : Txt K mg a) : CalM P w K mg base 2 a.parser "read_number" ["self", "reason", "least", "most"] (spD K 4 (S_Parser_read_number a)) := by
  have C_Parser_take := c_Parser_take (P := P) (w := w) (base := base) T
  refine T.m_Parser_read_number.cal T.k_Parser.cl fun f fd Fn => Fn.ok sc_Parser_read_number (fun vs H Q E h => spD_len h) (fun cdv A outer s H vs Q E HR h => ⟨_, (pss_cons (ps_set (i := 4) sc_Parser_read_number.nd rfl (Or.inl rfl) (pe_mthR C_Parser_take (HR.mono (by decide)) (pv 0) (pa_cons pe_str pa_nil)))
        (pss_cons (ps_set (i := 5) sc_Parser_read_number.nd rfl (Or.inl rfl) (pe_callTy call_intG rfl T.b_int (by decide +kernel) (pa_cons (pe_fldK (K := K) rfl (pv 4) rfl) pa_nil)))
        (pss_cons (ps_if (pt_not (pt_chain op_leG op_leG (pv 2) (pv 5) (pv 3))) (pss_one ps_never) pss_nil)
        (pss_one (ps_ret (pv 5)))))), body h (by decide) fun F M ds R hS hl => ?_⟩)
  obtain ⟨p, r, lo, hi, s, t, n, rfl, rfl, ht, hk, hx, hn, hlo, hhi, k⟩ := hS
  try dsimp only [cxOf, Cx.nox, Cx.wish]
  walk_at "nrm"
  have hP := T.k_Parser.cl
  refine ws_seq (ws_asg (wx_methS 0 (ed_var rfl) rfl rfl (wa_pure (ea_cons ed_str ea_nil) ⟨Nat.le_of_ble_eq_true rfl, _, rfl, p, ["number"], s, t, rfl, rfl, ht, by rw [hk]; exact List.mem_singleton.mpr rfl, [], _, rfl, ?_⟩)))
  walk_at "nrm"
  have hl := numL_le hn
  refine ws_seq (ws_asg (wx_pure (d := .int n) (ed_cb (ea_cons (ed_fld (ed_var rfl) T.k_Token.cl (T.k_Token.na _ (by simp)) rfl) ea_nil) (cd_intS (by rw [hx]; exact int_num (by omega)) (by rw [hx, num_mk, mk_len]; omega))) ?_))
  walk_at "nrm"
  refine ws_seq (ws_if (wt_pure (b := false) (et_is (et_not (et_cmp (ed_chain (ed_var rfl) (ed_var rfl) od_le (fun _ => ed_var rfl) (fun _ => od_le)))) (by rw [decide_eq_true hlo, decide_eq_true hhi]; rfl)) ⟨fun h => (nomatch h), fun _ => ws_next ?_⟩))
  exact ws_ret (wx_pure (ed_var rfl) ⟨[], _, rfl, rfl, k⟩)
abbrev s_Parser_read_letter : Stmt := inClass (top 38) 9
abbrev N_Parser_read_letter : List Str := ["self"]
theorem sc_Parser_read_letter : FnScope N_Parser_read_letter ["self"] (defScope s_Parser_read_letter) := ⟨rfl, rfl, rfl, by decide +kernel, rfl, by decide +kernel, by decide +kernel⟩

theorem c_Parser_read_letter (T : Txt K mg a) : CalM P w K mg base 2 a.parser "read_letter" ["self"] (spD K 1 (S_Parser_read_letter a)) := by
  have C_Parser_take := c_Parser_take (P := P) (w := w) (base := base) T
  refine T.m_Parser_read_letter.cal T.k_Parser.cl fun f fd Fn => Fn.ok sc_Parser_read_letter (fun vs H Q E h => spD_len h) (fun cdv A outer s H vs Q E HR h => ⟨_, (pss_one (ps_ret (pe_bm PySem.F.plainAttrs_tuple PySem.F.slot_tuple_index PySem.F.type_tuple_index (mt_tix (K := K) rfl) (pe_tc (K := K) (mg := mg) rfl rfl T.c_REGISTERS) (pa_cons (pe_fldK (K := K) rfl (pe_mthR C_Parser_take (HR.mono (by decide)) (pv 0) (pa_cons pe_str pa_nil)) rfl) pa_nil)))), body h (by decide) fun F M ds R hS hl => ?_⟩)
  obtain ⟨p, s, t, r, rfl, rfl, ht, hk, hx, hr, k⟩ := hS
  try dsimp only [cxOf, Cx.nox, Cx.wish]
  walk_at "nrm"
  have hP := T.k_Parser.cl
  refine ws_ret (wx_tix (ys := rgs) (wx_fldI (wx_methS 0 (ed_var rfl) rfl rfl (wa_pure (ea_cons ed_str ea_nil) ⟨Nat.le_of_ble_eq_true rfl, _, rfl, p, ["letter"], s, t, rfl, rfl, ht, by rw [hk]; exact List.mem_singleton.mpr rfl, [], _, rfl, a.token, _, _, rfl, T.k_Token.cl, T.k_Token.na _ (by simp), rfl, t.tx, r, rfl, ?_, ?_, [], _, rfl, rfl, k⟩))))
  · rw [hx]
    match r, hr with
    | 0, _ => rfl
    | 1, _ => rfl
    | 2, _ => rfl
    | 3, _ => rfl
  · rw [hx]
    intro m hm he
    have key : ∀ r < 4, ∀ m < r, rgs[m]? ≠ some (mk (regL r)) := by decide +kernel
    exact key r hr m hm he
abbrev s_Parser_read_value : Stmt := inClass (top 38) 10
abbrev N_Parser_read_value : List Str := ["self"]
theorem sc_Parser_read_value : FnScope N_Parser_read_value ["self"] (defScope s_Parser_read_value) := ⟨rfl, rfl, rfl, by decide +kernel, rfl, by decide +kernel, by decide +kernel⟩

theorem c_Parser_read_value (T : Txt K mg a) : CalM P w K mg base 3 a.parser "read_value" ["self"] (spD K 1 (S_Parser_read_value a)) := by
  have C_Parser_read_number := c_Parser_read_number (P := P) (w := w) (base := base) T
  refine T.m_Parser_read_value.cal T.k_Parser.cl fun f fd Fn => Fn.ok sc_Parser_read_value (fun vs H Q E h => spD_len h) (fun cdv A outer s H vs Q E HR h => ⟨_, (pss_one (ps_ret (pe_mth C_Parser_read_number (HR.mono (by decide)) (pv 0) (pa_cons pe_str (pa_cons pe_int (pa_cons (pe_op op_subG (pe_fldK (K := K) rfl (pv 0) rfl) pe_int) pa_nil)))))), body h (by decide) fun F M ds R hS hl => ?_⟩)
  obtain ⟨p, s, t, n, rfl, rfl, ht, hk, hx, hn, hw, k⟩ := hS
  try dsimp only [cxOf, Cx.nox, Cx.wish]
  walk_at "nrm"
  have hP := T.k_Parser.cl
  exact ws_ret (wx_meth 0 (ed_var rfl) rfl rfl (wa_pure (ea_cons ed_str (ea_cons ed_int (ea_cons (ed_op (ed_fldM 0 (ed_var rfl) rfl hP (T.k_Parser.na _ (by simp)) rfl) ed_int od_sub) ea_nil))) ⟨rfl, _, rfl, p, _, _, _, s, t, n, rfl, rfl, ht, hk, hx, hn, by omega, by omega, [], _, rfl, [], _, rfl, rfl, k⟩))
abbrev s_Parser_read_depth : Stmt := inClass (top 38) 11
abbrev N_Parser_read_depth : List Str := ["self"]
theorem sc_Parser_read_depth : FnScope N_Parser_read_depth ["self"] (defScope s_Parser_read_depth) := ⟨rfl, rfl, rfl, by decide +kernel, rfl, by decide +kernel, by decide +kernel⟩

theorem c_Parser_read_depth (T : Txt K mg a) : CalM P w K mg base 3 a.parser "read_depth" ["self"] (spD K 1 (S_Parser_read_depth a)) := by
  have C_Parser_read_number := c_Parser_read_number (P := P) (w := w) (base := base) T
  refine T.m_Parser_read_depth.cal T.k_Parser.cl fun f fd Fn => Fn.ok sc_Parser_read_depth (fun vs H Q E h => spD_len h) (fun cdv A outer s H vs Q E HR h => ⟨_, (pss_one (ps_ret (pe_mth C_Parser_read_number (HR.mono (by decide)) (pv 0) (pa_cons pe_str (pa_cons pe_int (pa_cons (pe_cst rfl T.c_MOST_DEPTH) pa_nil)))))), body h (by decide) fun F M ds R hS hl => ?_⟩)
  obtain ⟨p, s, t, n, rfl, rfl, ht, hk, hx, hn, k⟩ := hS
  try dsimp only [cxOf, Cx.nox, Cx.wish]
  walk_at "nrm"
  have hP := T.k_Parser.cl
  exact ws_ret (wx_meth 0 (ed_var rfl) rfl rfl (wa_pure (ea_cons ed_str (ea_cons ed_int (ea_cons (ed_c fun _ => .int _) ea_nil))) ⟨rfl, _, rfl, p, _, _, _, s, t, n, rfl, rfl, ht, hk, hx, by omega, by omega, by omega, [], _, rfl, [], _, rfl, rfl, k⟩))
abbrev s_Parser_read_action : Stmt := inClass (top 38) 7
abbrev N_Parser_read_action : List Str := ["self", "word", "first", "second"]
theorem sc_Parser_read_action : FnScope N_Parser_read_action ["self"] (defScope s_Parser_read_action) := ⟨rfl, rfl, rfl, by decide +kernel, rfl, by decide +kernel, by decide +kernel⟩

theorem c_Parser_read_action (T : Txt K mg a) : CalM P w K mg base 4 a.parser "read_action" ["self"] (spD K 1 (S_Parser_read_action a)) := by
  have C_Parser_read_letter := c_Parser_read_letter (P := P) (w := w) (base := base) T
  have C_Parser_read_value := c_Parser_read_value (P := P) (w := w) (base := base) T
  have C_Parser_sees := c_Parser_sees (P := P) (w := w) (base := base) T
  have C_Parser_take := c_Parser_take (P := P) (w := w) (base := base) T
  refine T.m_Parser_read_action.cal T.k_Parser.cl fun f fd Fn => Fn.ok sc_Parser_read_action (fun vs H Q E h => spD_len h) (fun cdv A outer s H vs Q E HR h => ⟨_, (pss_cons (ps_set (i := 1) sc_Parser_read_action.nd rfl (Or.inl rfl) (pe_fldK (K := K) rfl (pe_mthR C_Parser_take (HR.mono (by decide)) (pv 0) (pa_cons pe_str (pa_cons pe_str (pa_cons pe_str (pa_cons pe_str pa_nil))))) rfl))
        (pss_cons (ps_if (pt_cmpR (op_eqG (K := K) rfl HR.units) (pv 1) pe_str (nomark _)) (pss_cons (ps_if (pt_tru (K := K) rfl (pe_mth C_Parser_sees (HR.mono (by decide)) (pv 0) (pa_cons pe_str pa_nil))) (pss_one (ps_ret (pe_tupF (pa_cons (pe_cst rfl T.c_EMIT_LETTER) (pa_cons (pe_mth0 C_Parser_read_letter (HR.mono (by decide)) (pv 0)) pa_nil))))) pss_nil)
        (pss_one (ps_ret (pe_tupF (pa_cons (pe_cst rfl T.c_EMIT_NUMBER) (pa_cons (pe_mth0 C_Parser_read_value (HR.mono (by decide)) (pv 0)) pa_nil)))))) pss_nil)
        (pss_cons (ps_set (i := 2) sc_Parser_read_action.nd rfl (Or.inl rfl) (pe_mth0 C_Parser_read_letter (HR.mono (by decide)) (pv 0)))
        (pss_cons (ps_if (pt_cmpR (op_eqG (K := K) rfl HR.units) (pv 1) pe_str (nomark _)) (pss_one (ps_ret (pe_tupF (pa_cons (pe_cst rfl T.c_ADD) (pa_cons (pv 2) (pa_cons (pe_mth0 C_Parser_read_value (HR.mono (by decide)) (pv 0)) pa_nil)))))) pss_nil)
        (pss_cons (ps_set (i := 3) sc_Parser_read_action.nd rfl (Or.inl rfl) (pe_mth0 C_Parser_read_letter (HR.mono (by decide)) (pv 0)))
        (pss_cons (ps_if (pt_cmpR (op_eqG (K := K) rfl HR.units) (pv 1) pe_str (nomark _)) (pss_one (ps_ret (pe_tupF (pa_cons (pe_cst rfl T.c_COPY) (pa_cons (pv 2) (pa_cons (pv 3) pa_nil)))))) pss_nil)
        (pss_one (ps_ret (pe_tupF (pa_cons (pe_cst rfl T.c_SWAP) (pa_cons (pv 2) (pa_cons (pv 3) pa_nil)))))))))))), body h (by decide) fun F M ds R hS hl => ?_⟩)
  obtain ⟨p, s, c, rfl, rfl, hw, hc, hat, k⟩ := hS
  try dsimp only [cxOf, Cx.nox, Cx.wish]
  walk_at "nrm"
  have hT := T.k_Token.cl
  cases c with
  | add r n =>
    obtain ⟨t0, h0, k0, x0, hat⟩ := At.hd hat
    obtain ⟨t1, h1, k1, x1, hat⟩ := At.hd hat
    obtain ⟨t2, h2, k2, x2, hat⟩ := At.hd hat
    refine ws_seq (ws_asg (wx_fldI (wx_methS 0 (ed_var rfl) rfl rfl (wa_pure (ea_cons ed_str (ea_cons ed_str (ea_cons ed_str (ea_cons ed_str ea_nil)))) ⟨Nat.le_of_ble_eq_true rfl, _, rfl, p, ["add", "copy", "swap", "emit"], s, t0, rfl, rfl, h0, by rw [k0]; decide +kernel, [], _, rfl, a.token, _, _, rfl, hT, T.k_Token.na _ (by simp), rfl, ?_⟩))))
    rw [k0]
    walk_at "nrm"
    refine ws_seq (ws_if (wt_pure (b := false) (et_cmp (ed_is (ed_op (ed_var rfl) ed_str od_eqS) rfl)) ⟨fun h => (nomatch h), fun _ => ws_next ?_⟩))
    refine ws_seq (ws_asg (wx_meth 0 (ed_var rfl) rfl rfl (wa_nil ⟨rfl, _, rfl, p, _, t1, r, rfl, rfl, h1, k1, x1, hc.1, [], _, rfl, ?_⟩)))
    walk_at "nrm"
    refine ws_seq (ws_if (wt_pure (b := true) (et_cmp (ed_is (ed_op (ed_var rfl) ed_str od_eqS) rfl)) ⟨fun _ => ?_, fun h => (nomatch h)⟩))
    have := hc.2
    exact ws_ret (wx_tup (wa_cons (wx_pure (ed_c fun _ => .int _) (wa_cons (wx_pure (ed_var rfl) (wa_cons (wx_meth 0 (ed_var rfl) rfl rfl (wa_nil ⟨rfl, _, rfl, p, _, t2, n, rfl, rfl, h2, k2, x2, by omega, hc.2, [], _, rfl, wa_nil ⟨Nat.le_of_ble_eq_true rfl, [], _, rfl, rfl, k⟩⟩))))))))
  | copy r r2 =>
    obtain ⟨t0, h0, k0, x0, hat⟩ := At.hd hat
    obtain ⟨t1, h1, k1, x1, hat⟩ := At.hd hat
    obtain ⟨t2, h2, k2, x2, hat⟩ := At.hd hat
    refine ws_seq (ws_asg (wx_fldI (wx_methS 0 (ed_var rfl) rfl rfl (wa_pure (ea_cons ed_str (ea_cons ed_str (ea_cons ed_str (ea_cons ed_str ea_nil)))) ⟨Nat.le_of_ble_eq_true rfl, _, rfl, p, ["add", "copy", "swap", "emit"], s, t0, rfl, rfl, h0, by rw [k0]; decide +kernel, [], _, rfl, a.token, _, _, rfl, hT, T.k_Token.na _ (by simp), rfl, ?_⟩))))
    rw [k0]
    walk_at "nrm"
    refine ws_seq (ws_if (wt_pure (b := false) (et_cmp (ed_is (ed_op (ed_var rfl) ed_str od_eqS) rfl)) ⟨fun h => (nomatch h), fun _ => ws_next ?_⟩))
    refine ws_seq (ws_asg (wx_meth 0 (ed_var rfl) rfl rfl (wa_nil ⟨rfl, _, rfl, p, _, t1, r, rfl, rfl, h1, k1, x1, hc.1, [], _, rfl, ?_⟩)))
    walk_at "nrm"
    refine ws_seq (ws_if (wt_pure (b := false) (et_cmp (ed_is (ed_op (ed_var rfl) ed_str od_eqS) rfl)) ⟨fun h => (nomatch h), fun _ => ws_next ?_⟩))
    refine ws_seq (ws_asg (wx_meth 0 (ed_var rfl) rfl rfl (wa_nil ⟨rfl, _, rfl, p, _, t2, r2, rfl, rfl, h2, k2, x2, hc.2, [], _, rfl, ?_⟩)))
    walk_at "nrm"
    refine ws_seq (ws_if (wt_pure (b := true) (et_cmp (ed_is (ed_op (ed_var rfl) ed_str od_eqS) rfl)) ⟨fun _ => ?_, fun h => (nomatch h)⟩))
    exact ws_ret (wx_tup (wa_pure (ea_cons (ed_c fun _ => .int _) (ea_cons (ed_var rfl) (ea_cons (ed_var rfl) ea_nil))) ⟨Nat.le_of_ble_eq_true rfl, [], _, rfl, rfl, k⟩))
  | swap r r2 =>
    obtain ⟨t0, h0, k0, x0, hat⟩ := At.hd hat
    obtain ⟨t1, h1, k1, x1, hat⟩ := At.hd hat
    obtain ⟨t2, h2, k2, x2, hat⟩ := At.hd hat
    refine ws_seq (ws_asg (wx_fldI (wx_methS 0 (ed_var rfl) rfl rfl (wa_pure (ea_cons ed_str (ea_cons ed_str (ea_cons ed_str (ea_cons ed_str ea_nil)))) ⟨Nat.le_of_ble_eq_true rfl, _, rfl, p, ["add", "copy", "swap", "emit"], s, t0, rfl, rfl, h0, by rw [k0]; decide +kernel, [], _, rfl, a.token, _, _, rfl, hT, T.k_Token.na _ (by simp), rfl, ?_⟩))))
    rw [k0]
    walk_at "nrm"
    refine ws_seq (ws_if (wt_pure (b := false) (et_cmp (ed_is (ed_op (ed_var rfl) ed_str od_eqS) rfl)) ⟨fun h => (nomatch h), fun _ => ws_next ?_⟩))
    refine ws_seq (ws_asg (wx_meth 0 (ed_var rfl) rfl rfl (wa_nil ⟨rfl, _, rfl, p, _, t1, r, rfl, rfl, h1, k1, x1, hc.1, [], _, rfl, ?_⟩)))
    walk_at "nrm"
    refine ws_seq (ws_if (wt_pure (b := false) (et_cmp (ed_is (ed_op (ed_var rfl) ed_str od_eqS) rfl)) ⟨fun h => (nomatch h), fun _ => ws_next ?_⟩))
    refine ws_seq (ws_asg (wx_meth 0 (ed_var rfl) rfl rfl (wa_nil ⟨rfl, _, rfl, p, _, t2, r2, rfl, rfl, h2, k2, x2, hc.2, [], _, rfl, ?_⟩)))
    walk_at "nrm"
    refine ws_seq (ws_if (wt_pure (b := false) (et_cmp (ed_is (ed_op (ed_var rfl) ed_str od_eqS) rfl)) ⟨fun h => (nomatch h), fun _ => ws_next ?_⟩))
    exact ws_ret (wx_tup (wa_pure (ea_cons (ed_c fun _ => .int _) (ea_cons (ed_var rfl) (ea_cons (ed_var rfl) ea_nil))) ⟨Nat.le_of_ble_eq_true rfl, [], _, rfl, rfl, k⟩))
  | emr r =>
    obtain ⟨t0, h0, k0, x0, hat⟩ := At.hd hat
    obtain ⟨t1, h1, k1, x1, hat⟩ := At.hd hat
    refine ws_seq (ws_asg (wx_fldI (wx_methS 0 (ed_var rfl) rfl rfl (wa_pure (ea_cons ed_str (ea_cons ed_str (ea_cons ed_str (ea_cons ed_str ea_nil)))) ⟨Nat.le_of_ble_eq_true rfl, _, rfl, p, ["add", "copy", "swap", "emit"], s, t0, rfl, rfl, h0, by rw [k0]; decide +kernel, [], _, rfl, a.token, _, _, rfl, hT, T.k_Token.na _ (by simp), rfl, ?_⟩))))
    rw [k0]
    walk_at "nrm"
    refine ws_seq (ws_if (wt_pure (b := true) (et_cmp (ed_is (ed_op (ed_var rfl) ed_str od_eqS) rfl)) ⟨fun _ => ?_, fun h => (nomatch h)⟩))
    refine ws_seq (ws_if (wt_tru (wx_meth 0 (ed_var rfl) rfl rfl (wa_pure (ea_cons ed_str ea_nil) ⟨rfl, _, rfl, p, _, _, t1, rfl, rfl, h1, [], _, rfl, true, by rw [k1]; rfl, ?_⟩))))
    refine ⟨fun _ => ?_, fun h => (nomatch h)⟩
    exact ws_ret (wx_tup (wa_cons (wx_pure (ed_c fun _ => .int _) (wa_cons (wx_meth 0 (ed_var rfl) rfl rfl (wa_nil ⟨rfl, _, rfl, p, _, t1, r, rfl, rfl, h1, k1, x1, hc, [], _, rfl, wa_nil ⟨Nat.le_of_ble_eq_true rfl, [], _, rfl, rfl, k⟩⟩))))))
  | emn n =>
    obtain ⟨t0, h0, k0, x0, hat⟩ := At.hd hat
    obtain ⟨t1, h1, k1, x1, hat⟩ := At.hd hat
    refine ws_seq (ws_asg (wx_fldI (wx_methS 0 (ed_var rfl) rfl rfl (wa_pure (ea_cons ed_str (ea_cons ed_str (ea_cons ed_str (ea_cons ed_str ea_nil)))) ⟨Nat.le_of_ble_eq_true rfl, _, rfl, p, ["add", "copy", "swap", "emit"], s, t0, rfl, rfl, h0, by rw [k0]; decide +kernel, [], _, rfl, a.token, _, _, rfl, hT, T.k_Token.na _ (by simp), rfl, ?_⟩))))
    rw [k0]
    walk_at "nrm"
    refine ws_seq (ws_if (wt_pure (b := true) (et_cmp (ed_is (ed_op (ed_var rfl) ed_str od_eqS) rfl)) ⟨fun _ => ?_, fun h => (nomatch h)⟩))
    refine ws_seq (ws_if (wt_tru (wx_meth 0 (ed_var rfl) rfl rfl (wa_pure (ea_cons ed_str ea_nil) ⟨rfl, _, rfl, p, _, _, t1, rfl, rfl, h1, [], _, rfl, false, by rw [k1]; rfl, ?_⟩))))
    refine ⟨fun h => (nomatch h), fun _ => ws_next ?_⟩
    have : n < s.w := hc
    exact ws_ret (wx_tup (wa_cons (wx_pure (ed_c fun _ => .int _) (wa_cons (wx_meth 0 (ed_var rfl) rfl rfl (wa_nil ⟨rfl, _, rfl, p, _, t1, n, rfl, rfl, h1, k1, x1, by omega, hc, [], _, rfl, wa_nil ⟨Nat.le_of_ble_eq_true rfl, [], _, rfl, rfl, k⟩⟩))))))
abbrev s_Parser_read_put : Stmt := inClass (top 38) 8
abbrev N_Parser_read_put : List Str := ["self", "letter", "first"]
theorem sc_Parser_read_put : FnScope N_Parser_read_put ["self"] (defScope s_Parser_read_put) := ⟨rfl, rfl, rfl, by decide +kernel, rfl, by decide +kernel, by decide +kernel⟩

theorem c_Parser_read_put (T : Txt K mg a) : CalM P w K mg base 4 a.parser "read_put" ["self"] (spD K 1 (S_Parser_read_put a)) := by
  have C_Parser_read_depth := c_Parser_read_depth (P := P) (w := w) (base := base) T
  have C_Parser_read_letter := c_Parser_read_letter (P := P) (w := w) (base := base) T
  have C_Parser_sees := c_Parser_sees (P := P) (w := w) (base := base) T
  have C_Parser_take := c_Parser_take (P := P) (w := w) (base := base) T
  refine T.m_Parser_read_put.cal T.k_Parser.cl fun f fd Fn => Fn.ok sc_Parser_read_put (fun vs H Q E h => spD_len h) (fun cdv A outer s H vs Q E HR h => ⟨_, (pss_cons (ps_if (pt_not (pt_tru (K := K) rfl (pe_mth C_Parser_sees (HR.mono (by decide)) (pv 0) (pa_cons pe_str pa_nil)))) (pss_one (ps_ret (pe_tupF (pa_cons (pe_cst rfl T.c_PUT_NUMBER) (pa_cons (pe_mth0 C_Parser_read_depth (HR.mono (by decide)) (pv 0)) pa_nil))))) pss_nil)
        (pss_cons (ps_set (i := 1) sc_Parser_read_put.nd rfl (Or.inl rfl) (pe_mth0 C_Parser_read_letter (HR.mono (by decide)) (pv 0)))
        (pss_cons (ps_if (pt_not (pt_tru (K := K) rfl (pe_mth C_Parser_sees (HR.mono (by decide)) (pv 0) (pa_cons pe_str pa_nil)))) (pss_one (ps_ret (pe_tupF (pa_cons (pe_cst rfl T.c_PUT_LETTER) (pa_cons (pv 1) pa_nil))))) pss_nil)
        (pss_cons (ps_expr (pe_mthR C_Parser_take (HR.mono (by decide)) (pv 0) (pa_cons pe_str pa_nil)))
        (pss_cons (ps_set (i := 2) sc_Parser_read_put.nd rfl (Or.inl rfl) (pe_mth0 C_Parser_read_depth (HR.mono (by decide)) (pv 0)))
        (pss_cons (ps_expr (pe_mthR C_Parser_take (HR.mono (by decide)) (pv 0) (pa_cons pe_str pa_nil)))
        (pss_one (ps_ret (pe_tupF (pa_cons (pe_cst rfl T.c_PUT_CHOICE) (pa_cons (pv 1) (pa_cons (pv 2) (pa_cons (pe_mth0 C_Parser_read_depth (HR.mono (by decide)) (pv 0)) pa_nil))))))))))))), body h (by decide) fun F M ds R hS hl => ?_⟩)
  obtain ⟨p, s, c, rfl, rfl, hc, hat, k⟩ := hS
  try dsimp only [cxOf, Cx.nox, Cx.wish]
  walk_at "nrm"
  cases c with
  | num n =>
    obtain ⟨t0, h0, k0, x0, hat⟩ := At.hd hat
    refine ws_seq (ws_if (wt_not (wt_tru (wx_meth 0 (ed_var rfl) rfl rfl (wa_pure (ea_cons ed_str ea_nil) ⟨rfl, _, rfl, p, _, _, t0, rfl, rfl, h0, [], _, rfl, false, by rw [k0]; rfl, ?_⟩)))))
    refine ⟨fun _ => ?_, fun h => (nomatch h)⟩
    exact ws_ret (wx_tup (wa_cons (wx_pure (ed_c fun _ => .int _) (wa_cons (wx_meth 0 (ed_var rfl) rfl rfl (wa_nil ⟨rfl, _, rfl, p, _, t0, n, rfl, rfl, h0, k0, x0, hc, [], _, rfl, wa_nil ⟨Nat.le_of_ble_eq_true rfl, [], _, rfl, rfl, k⟩⟩))))))
  | reg r =>
    obtain ⟨t0, h0, k0, x0, hat⟩ := At.hd hat
    obtain ⟨t1, h1, k1, x1, hat⟩ := At.hd hat
    refine ws_seq (ws_if (wt_not (wt_tru (wx_meth 0 (ed_var rfl) rfl rfl (wa_pure (ea_cons ed_str ea_nil) ⟨rfl, _, rfl, p, _, _, t0, rfl, rfl, h0, [], _, rfl, true, by rw [k0]; rfl, ?_⟩)))))
    refine ⟨fun h => (nomatch h), fun _ => ws_next ?_⟩
    refine ws_seq (ws_asg (wx_meth 0 (ed_var rfl) rfl rfl (wa_nil ⟨rfl, _, rfl, p, _, t0, r, rfl, rfl, h0, k0, x0, hc, [], _, rfl, ?_⟩)))
    walk_at "nrm"
    refine ws_seq (ws_if (wt_not (wt_tru (wx_meth 0 (ed_var rfl) rfl rfl (wa_pure (ea_cons ed_str ea_nil) ⟨rfl, _, rfl, p, _, _, t1, rfl, rfl, h1, [], _, rfl, false, by rw [k1]; rfl, ?_⟩)))))
    refine ⟨fun _ => ?_, fun h => (nomatch h)⟩
    exact ws_ret (wx_tup (wa_pure (ea_cons (ed_c fun _ => .int _) (ea_cons (ed_var rfl) ea_nil)) ⟨Nat.le_of_ble_eq_true rfl, [], _, rfl, rfl, k⟩))
  | cho r m n =>
    obtain ⟨t0, h0, k0, x0, hat⟩ := At.hd hat
    obtain ⟨t1, h1, k1, x1, hat⟩ := At.hd hat
    obtain ⟨t2, h2, k2, x2, hat⟩ := At.hd hat
    obtain ⟨t3, h3, k3, x3, hat⟩ := At.hd hat
    obtain ⟨t4, h4, k4, x4, hat⟩ := At.hd hat
    refine ws_seq (ws_if (wt_not (wt_tru (wx_meth 0 (ed_var rfl) rfl rfl (wa_pure (ea_cons ed_str ea_nil) ⟨rfl, _, rfl, p, _, _, t0, rfl, rfl, h0, [], _, rfl, true, by rw [k0]; rfl, ?_⟩)))))
    refine ⟨fun h => (nomatch h), fun _ => ws_next ?_⟩
    refine ws_seq (ws_asg (wx_meth 0 (ed_var rfl) rfl rfl (wa_nil ⟨rfl, _, rfl, p, _, t0, r, rfl, rfl, h0, k0, x0, hc.1, [], _, rfl, ?_⟩)))
    walk_at "nrm"
    refine ws_seq (ws_if (wt_not (wt_tru (wx_meth 0 (ed_var rfl) rfl rfl (wa_pure (ea_cons ed_str ea_nil) ⟨rfl, _, rfl, p, _, _, t1, rfl, rfl, h1, [], _, rfl, true, by rw [k1]; rfl, ?_⟩)))))
    refine ⟨fun h => (nomatch h), fun _ => ws_next ?_⟩
    refine ws_seq (ws_drop (wx_methS 0 (ed_var rfl) rfl rfl (wa_pure (ea_cons ed_str ea_nil) ⟨Nat.le_of_ble_eq_true rfl, _, rfl, p, ["?"], _, t1, rfl, rfl, h1, by rw [k1]; exact List.mem_singleton.mpr rfl, [], _, rfl, ?_⟩)))
    walk_at "nrm"
    refine ws_seq (ws_asg (wx_meth 0 (ed_var rfl) rfl rfl (wa_nil ⟨rfl, _, rfl, p, _, t2, m, rfl, rfl, h2, k2, x2, hc.2.1, [], _, rfl, ?_⟩)))
    walk_at "nrm"
    refine ws_seq (ws_drop (wx_methS 0 (ed_var rfl) rfl rfl (wa_pure (ea_cons ed_str ea_nil) ⟨Nat.le_of_ble_eq_true rfl, _, rfl, p, [":"], _, t3, rfl, rfl, h3, by rw [k3]; exact List.mem_singleton.mpr rfl, [], _, rfl, ?_⟩)))
    walk_at "nrm"
    exact ws_ret (wx_tup (wa_cons (wx_pure (ed_c fun _ => .int _) (wa_cons (wx_pure (ed_var rfl) (wa_cons (wx_pure (ed_var rfl) (wa_cons (wx_meth 0 (ed_var rfl) rfl rfl (wa_nil ⟨rfl, _, rfl, p, _, t4, n, rfl, rfl, h4, k4, x4, hc.2.2, [], _, rfl, wa_nil ⟨Nat.le_of_ble_eq_true rfl, [], _, rfl, rfl, k⟩⟩))))))))))
abbrev s_Parser_read_actions : Stmt := inClass (top 38) 6
abbrev N_Parser_read_actions : List Str := ["self", "actions"]
theorem sc_Parser_read_actions : FnScope N_Parser_read_actions ["self"] (defScope s_Parser_read_actions) := ⟨rfl, rfl, rfl, by decide +kernel, rfl, by decide +kernel, by decide +kernel⟩

theorem c_Parser_read_actions (T : Txt K mg a) : CalM P w K mg base 5 a.parser "read_actions" ["self"] (spD K 1 (S_Parser_read_actions a)) := by
  have C_Parser_read_action := c_Parser_read_action (P := P) (w := w) (base := base) T
  have C_Parser_sees := c_Parser_sees (P := P) (w := w) (base := base) T
  have C_Parser_take := c_Parser_take (P := P) (w := w) (base := base) T
  refine T.m_Parser_read_actions.cal T.k_Parser.cl fun f fd Fn => Fn.ok sc_Parser_read_actions (fun vs H Q E h => spD_len h) (fun cdv A outer s H vs Q E HR h => ⟨_, (pss_cons (ps_set (i := 1) sc_Parser_read_actions.nd rfl (Or.inl rfl) (pe_lst (pa_cons (pe_mth0 C_Parser_read_action (HR.mono (by decide)) (pv 0)) pa_nil)))
        (pss_cons (ps_while PassesOwn.never (pt_tru (K := K) rfl (pe_mth C_Parser_sees (HR.mono (by decide)) (pv 0) (pa_cons pe_str pa_nil))) (pss_cons (ps_expr (pe_mthR C_Parser_take (HR.mono (by decide)) (pv 0) (pa_cons pe_str pa_nil)))
        (pss_cons (ps_if (pt_cmpR op_geG (pe_callB (call_lenG (K := K) rfl) rfl T.b_len (by decide +kernel) (pa_cons (pv 1) pa_nil)) (pe_cst rfl T.c_MOST_ACTIONS) (nomark _)) (pss_one ps_never) pss_nil)
        (pss_one (ps_expr (pe_bm PySem.F.plainAttrs_list PySem.F.slot_list_append PySem.F.type_list_append mt_append (pv 1) (pa_cons (pe_mth0 C_Parser_read_action (HR.mono (by decide)) (pv 0)) pa_nil)))))))
        (pss_one (ps_ret (pv 1))))), body h (by decide) fun F M ds R hS hl => ?_⟩)
  obtain ⟨p, s, c, rfl, rfl, hw, hc, hne, hlen, hat, k⟩ := hS
  try dsimp only [cxOf, Cx.nox, Cx.wish]
  walk_at "nrm"
  cases c with
  | nil => exact absurd rfl hne
  | cons c0 cs =>
  have hat0 : At s.ts s.i (actT c0) := by
    cases cs with
    | nil => exact At.pre hat
    | cons c1 r => exact At.pre (At.pre hat)
  refine ws_seq (ws_asg (wx_newL (wa_cons (wx_meth 0 (ed_var rfl) rfl rfl (wa_nil ⟨rfl, _, rfl, p, s, c0, rfl, rfl, hw, hc _ (List.mem_cons_self ..), hat0, [], _, rfl, wa_nil ⟨Nat.le_of_ble_eq_true rfl, fun q hq => ?_⟩⟩)))))
  walk_at "nrm"
  have hqn : q ∉ [p] := fun z => hq (List.mem_append_left _ z)
  refine ws_cut (fun Γ' M' => Γ' = [some (.adr p), some (.adr q)] ∧ M' = (q, .lst ((c0 :: cs).map pA)) :: pS a p { s with i := s.i + (actsT (c0 :: cs)).length }) ?_ ?_
  · refine ws_while (fun m Γ' M' => ∃ (done : List Ac) (l : Ac) (todo : List Ac) (i : Nat), c0 :: cs = done ++ l :: todo ∧ m = todo.length ∧ Γ' = [some (.adr p), some (.adr q)] ∧ M' = (q, .lst ((done ++ [l]).map pA)) :: pS a p { s with i := i } ∧ i + (actsT (l :: todo)).length = s.i + (actsT (c0 :: cs)).length + (actT l).length ∧ (∃ ws, actsT (l :: todo) = actT l ++ ws ∧ At s.ts i (ws ++ [w2 "->"]))) cs.length ⟨[], c0, cs, s.i + (actT c0).length, rfl, rfl, rfl, rfl, by omega, ?_⟩ ?_
    · cases cs with
      | nil => exact ⟨[], by simp [actsT], At.post hat⟩
      | cons c1 r => exact ⟨_, rfl, by
          have : actsT (c0 :: c1 :: r) ++ [w2 "->"] = actT c0 ++ ((w2 "," :: actsT (c1 :: r)) ++ [w2 "->"]) := by simp [actsT]
          rw [this] at hat
          exact At.post hat⟩
    · rintro m Γ' M' ⟨done, l, todo, i, hcs, rfl, rfl, rfl, hi, ws, hws, hat'⟩
      have hmem : ∀ e ∈ todo, e ∈ c0 :: cs := fun e he => by rw [hcs]; exact List.mem_append_right _ (List.mem_cons_of_mem _ he)
      have hl2 := congrArg List.length hcs
      simp only [List.length_append, List.length_cons] at hl2 hlen
      cases todo with
      | nil =>
        have hw0 : ws = [] := by
          have : actT l = actT l ++ ws := hws
          have := congrArg List.length this
          rw [List.length_append] at this
          exact List.length_eq_zero_iff.mp (by omega)
        subst hw0
        obtain ⟨t, h1, k1, x1, _⟩ := At.hd hat'
        refine wt_tru (wx_meth 1 (ed_var rfl) rfl rfl (wa_pure (ea_cons ed_str ea_nil) ⟨rfl, _, rfl, p, _, _, t, rfl, rfl, h1, [], _, rfl, false, by rw [k1]; rfl, fun h => (nomatch h), fun _ => ⟨rfl, ?_⟩⟩))
        show _ :: _ = _
        rw [hcs]
        have : i = s.i + (actsT (c0 :: cs)).length := by
          have : (actsT [l]).length = (actT l).length := rfl
          omega
        rw [← hcs, ← this]
        rfl
      | cons n rest =>
        have hw1 : ws = w2 "," :: actsT (n :: rest) := by
          have : actT l ++ (w2 "," :: actsT (n :: rest)) = actT l ++ ws := hws
          exact (List.append_cancel_left this).symm
        subst hw1
        obtain ⟨t, h1, k1, x1, hat2⟩ := At.hd hat'
        have hat2 : At s.ts (i + 1) (actsT (n :: rest) ++ [w2 "->"]) := hat2
        have hatn : At s.ts (i + 1) (actT n) := by
          cases rest with
          | nil => exact At.pre hat2
          | cons c1 r => exact At.pre (At.pre hat2)
        refine wt_tru (wx_meth 1 (ed_var rfl) rfl rfl (wa_pure (ea_cons ed_str ea_nil) ⟨rfl, _, rfl, p, _, _, t, rfl, rfl, h1, [], _, rfl, true, by rw [k1]; rfl, fun _ => ?_, fun h => (nomatch h)⟩))
        refine ws_seq (ws_drop (wx_methS 1 (ed_var rfl) rfl rfl (wa_pure (ea_cons ed_str ea_nil) ⟨Nat.le_of_ble_eq_true rfl, _, rfl, p, [","], _, t, rfl, rfl, h1, by rw [k1]; exact List.mem_singleton.mpr rfl, [], _, rfl, ?_⟩)))
        walk_at "nrm"
        refine ws_seq (ws_if (wt_pure (b := false) (et_is (et_cmp (ed_op (ed_cb (ea_cons (ed_var rfl) ea_nil) (cd_lenM (i := 0) rfl)) (ed_c fun _ => .int _) od_ge)) (by
          refine decide_eq_false ?_
          rw [List.length_map, List.length_append, List.length_singleton]
          simp only [List.length_cons] at hl2
          omega)) ⟨fun h => (nomatch h), fun _ => ws_next ?_⟩))
        refine ws_app (ed_var rfl) ⟨_, List.mem_cons_self ..⟩ (wx_meth 1 (ed_var rfl) rfl rfl (wa_nil ⟨rfl, _, rfl, p, _, n, rfl, rfl, hw, hc _ (hmem _ (List.mem_cons_self ..)), hatn, [], _, rfl, 0, _, rfl, ?_, ?_⟩))
        · rw [List.length_map, List.length_append, List.length_singleton]
          simp only [List.length_cons] at hl2
          omega
        · refine ⟨rest.length, Nat.lt_succ_self _, done ++ [l], n, rest, i + 1 + (actT n).length, by rw [hcs, List.append_assoc]; rfl, rfl, rfl, by rw [List.map_append (l₁ := done ++ [l])]; rfl, ?_, ?_⟩
          · have : (actsT (l :: n :: rest)).length = (actT l).length + ((actsT (n :: rest)).length + 1) := by
              simp only [actsT, List.length_append, List.length_cons]
            omega
          · cases rest with
            | nil => exact ⟨[], by simp [actsT], At.post hat2⟩
            | cons c1 r => exact ⟨_, rfl, by
                have : actsT (n :: c1 :: r) ++ [w2 "->"] = actT n ++ ((w2 "," :: actsT (c1 :: r)) ++ [w2 "->"]) := by simp [actsT]
                rw [this] at hat2
                exact At.post hat2⟩
  · rintro Γ' M' ⟨rfl, rfl⟩
    exact ws_ret (wx_frz (wx_pure (ed_var rfl) ⟨q, _, _, rfl, rfl, hqn, [], _, rfl, rfl, k⟩))
abbrev s_Card_init : Stmt := inClass (top 10) 0
abbrev N_Card_init : List Str := ["self", "name", "actions", "put"]
theorem sc_Card_init : FnScope N_Card_init ["self", "name", "actions", "put"] (defScope s_Card_init) := ⟨rfl, rfl, rfl, by decide +kernel, rfl, by decide +kernel, by decide +kernel⟩

theorem c_Card_init (T : Txt K mg a) : CalK P w K mg base 1 "Card" a.card ["self", "name", "actions", "put"] (spD K 4 (S_Card_init a)) := by
  refine T.k_Card.cal fun f fd Fn => Fn.ok sc_Card_init (fun vs H Q E h => spD_len h) (fun cdv A outer s H vs Q E HR h => ⟨_, (pss_cons (ps_fld (pv 0) (pv 1) rfl)
        (pss_cons (ps_fld (pv 0) (pv 2) rfl)
        (pss_one (ps_fld (pv 0) (pv 3) rfl)))), body h (by decide) fun F M ds R hS hl => ?_⟩)
  obtain ⟨p, x, y, z, rfl, rfl, k⟩ := hS
  try dsimp only [cxOf, Cx.nox, Cx.wish]
  walk_at "nrm"
  have hc := T.k_Card.cl
  refine ws_seq (ws_fld (p := p) (wx_pure (ed_var rfl) ⟨ed_var rfl, hc, T.k_Card.na _ (by simp), 0, _, rfl, by simp, ?_⟩))
  refine ws_seq (ws_fld (p := p) (wx_pure (ed_var rfl) ⟨ed_var rfl, hc, T.k_Card.na _ (by simp), 0, _, rfl, Nat.le_of_ble_eq_true rfl, ?_⟩))
  refine ws_fld (p := p) (wx_pure (ed_var rfl) ⟨ed_var rfl, hc, T.k_Card.na _ (by simp), 0, _, rfl, Nat.le_of_ble_eq_true rfl, ?_⟩)
  exact ⟨[], _, rfl, rfl, k⟩
abbrev s_Parser_read_card : Stmt := inClass (top 38) 5
abbrev N_Parser_read_card : List Str := ["self", "earlier", "name", "actions", "put"]
theorem sc_Parser_read_card : FnScope N_Parser_read_card ["self", "earlier"] (defScope s_Parser_read_card) := ⟨rfl, rfl, rfl, by decide +kernel, rfl, by decide +kernel, by decide +kernel⟩

theorem c_Parser_read_card (T : Txt K mg a) : CalM P w K mg base 6 a.parser "read_card" ["self", "earlier"] (spD K 2 (S_Parser_read_card a)) := by
  have C_Card_init := c_Card_init (P := P) (w := w) (base := base) T
  have C_Parser_read_actions := c_Parser_read_actions (P := P) (w := w) (base := base) T
  have C_Parser_read_put := c_Parser_read_put (P := P) (w := w) (base := base) T
  have C_Parser_sees := c_Parser_sees (P := P) (w := w) (base := base) T
  have C_Parser_take := c_Parser_take (P := P) (w := w) (base := base) T
  refine T.m_Parser_read_card.cal T.k_Parser.cl fun f fd Fn => Fn.ok sc_Parser_read_card (fun vs H Q E h => spD_len h) (fun cdv A outer s H vs Q E HR h => ⟨_, (pss_cons (ps_set (i := 2) sc_Parser_read_card.nd rfl (Or.inl rfl) (pe_mthR C_Parser_take (HR.mono (by decide)) (pv 0) (pa_cons pe_str pa_nil)))
        (pss_cons (ps_if (pt_cmpR op_geG (pe_callB (call_lenG (K := K) rfl) rfl T.b_len (by decide +kernel) (pa_cons (pv 1) pa_nil)) (pe_cst rfl T.c_MOST_CARDS) (nomark _)) (pss_one ps_never) pss_nil)
        (pss_cons (ps_if (pt_cmpR (op_inG (K := K) rfl (room65 HR)) (pe_fldK (K := K) rfl (pv 2) rfl) (pv 1) (by rfl)) (pss_one ps_never) pss_nil)
        (pss_cons (ps_expr (pe_mthR C_Parser_take (HR.mono (by decide)) (pv 0) (pa_cons pe_str pa_nil)))
        (pss_cons (ps_set (i := 3) sc_Parser_read_card.nd rfl (Or.inl rfl) (pe_lst pa_nil))
        (pss_cons (ps_if (pt_not (pt_tru (K := K) rfl (pe_mth C_Parser_sees (HR.mono (by decide)) (pv 0) (pa_cons pe_str pa_nil)))) (pss_one (ps_set (i := 3) sc_Parser_read_card.nd rfl (Or.inl rfl) (pe_mth0 C_Parser_read_actions (HR.mono (by decide)) (pv 0)))) pss_nil)
        (pss_cons (ps_expr (pe_mthR C_Parser_take (HR.mono (by decide)) (pv 0) (pa_cons pe_str pa_nil)))
        (pss_cons (ps_set (i := 4) sc_Parser_read_card.nd rfl (Or.inl rfl) (pe_mth0 C_Parser_read_put (HR.mono (by decide)) (pv 0)))
        (pss_cons (ps_expr (pe_mthR C_Parser_take (HR.mono (by decide)) (pv 0) (pa_cons pe_str pa_nil)))
        (pss_one (ps_ret (pe_mk C_Card_init (HR.mono (by decide)) rfl (pa_cons (pe_fldK (K := K) rfl (pv 2) rfl) (pa_cons (pe_callTy (call_tupleG (K := K) rfl) rfl T.b_tuple (by decide +kernel) (pa_cons (pv 3) pa_nil)) (pa_cons (pv 4) pa_nil))))))))))))))), body h (by decide) fun F M ds R hS hl => ?_⟩)
  obtain ⟨p, s, c, ns, rfl, rfl, hw, hc, hns, hnn, hat, k⟩ := hS
  try dsimp only [cxOf, Cx.nox, Cx.wish]
  walk_at "nrm"
  have hT := T.k_Token.cl
  obtain ⟨t0, h0, k0, x0, hat⟩ := At.hd hat
  obtain ⟨t1, h1, k1, x1, hat⟩ := At.hd hat
  have hat : At s.ts (s.i + 1 + 1) (actsT c.ac ++ (w2 "->" :: (putT c.pu ++ [w2 ";"]))) := hat
  have hat3 := At.post hat
  obtain ⟨t3, h3, k3, x3, hat4⟩ := At.hd hat3
  have hat4 : At s.ts (s.i + 1 + 1 + (actsT c.ac).length + 1) (putT c.pu ++ [w2 ";"]) := hat4
  obtain ⟨t5, h5, k5, x5, _⟩ := At.hd (At.post hat4)
  refine ws_seq (ws_asg (wx_methS 0 (ed_var rfl) rfl rfl (wa_pure (ea_cons ed_str ea_nil) ⟨Nat.le_of_ble_eq_true rfl, _, rfl, p, ["name"], s, t0, rfl, rfl, h0, by rw [k0]; exact List.mem_singleton.mpr rfl, [], _, rfl, ?_⟩)))
  walk_at "nrm"
  refine ws_seq (ws_if (wt_pure (b := false) (et_is (et_cmp (ed_op (ed_cb (ea_cons (ed_var rfl) ea_nil) cd_lenL) (ed_c fun _ => .int _) od_ge)) (by
    refine decide_eq_false ?_
    rw [List.length_map]
    omega)) ⟨fun h => (nomatch h), fun _ => ws_next ?_⟩))
  refine ws_seq (ws_if (wt_pure (b := false) (et_is (et_cmp (ed_op (ed_fld (ed_var rfl) hT (T.k_Token.na _ (by simp)) rfl) (ed_var rfl) od_inL)) (by rw [x0]; exact decide_eq_false hnn)) ⟨fun h => (nomatch h), fun _ => ws_next ?_⟩))
  refine ws_seq (ws_drop (wx_methS 0 (ed_var rfl) rfl rfl (wa_pure (ea_cons ed_str ea_nil) ⟨Nat.le_of_ble_eq_true rfl, _, rfl, p, [":"], _, t1, rfl, rfl, h1, by rw [k1]; exact List.mem_singleton.mpr rfl, [], _, rfl, ?_⟩)))
  walk_at "nrm"
  refine ws_seq (ws_asg (wx_pure (ed_lst ea_nil (Nat.zero_le _)) ?_))
  walk_at "nrm"
  refine ws_cut (fun Γ' M' => Γ' = [some (.adr p), some (.lst (ns.map Dv.str)), some (eT a t0), some (.lst (c.ac.map pA)), none] ∧ M' = pS a p { s with i := s.i + 1 + 1 + (actsT c.ac).length }) ?_ ?_
  · cases hca : c.ac with
    | nil =>
      rw [hca] at h3
      refine ws_if (wt_not (wt_tru (wx_meth 0 (ed_var rfl) rfl rfl (wa_pure (ea_cons ed_str ea_nil) ⟨rfl, _, rfl, p, _, _, t3, rfl, rfl, h3, [], _, rfl, true, by rw [k3]; rfl, fun h => (nomatch h), fun _ => ws_next ?_⟩))))
      exact ⟨rfl, rfl⟩
    | cons a0 r =>
      have hata : At s.ts (s.i + 1 + 1) (actsT (a0 :: r) ++ [w2 "->"]) := by
        rw [← hca]
        have e : actsT c.ac ++ (w2 "->" :: (putT c.pu ++ [w2 ";"])) = (actsT c.ac ++ [w2 "->"]) ++ (putT c.pu ++ [w2 ";"]) := by simp
        rw [e] at hat
        exact At.pre hat
      obtain ⟨k', x', rr, hk', he⟩ : ∃ (k' x' : Str) (rr : List W2), k' ≠ ("->" : Str) ∧ actsT (a0 :: r) ++ [w2 "->"] = (k', x') :: rr := by
        have e1 : ∃ (k' x' : Str) (r1 : List W2), k' ≠ ("->" : Str) ∧ actT a0 = (k', x') :: r1 := by
          cases a0 <;> exact ⟨_, _, _, by decide, rfl⟩
        obtain ⟨k', x', r1, h1, h2⟩ := e1
        cases r with
        | nil => exact ⟨k', x', r1 ++ [w2 "->"], h1, by show actT a0 ++ _ = _; rw [h2]; rfl⟩
        | cons b r => exact ⟨k', x', _, h1, by show (actT a0 ++ _) ++ _ = _; rw [h2]; rfl⟩
      have hatb := hata
      rw [he] at hatb
      obtain ⟨t2, h2, k2, x2, _⟩ := At.hd hatb
      refine ws_if (wt_not (wt_tru (wx_meth 0 (ed_var rfl) rfl rfl (wa_pure (ea_cons ed_str ea_nil) ⟨rfl, _, rfl, p, _, _, t2, rfl, rfl, h2, [], _, rfl, false, by rw [k2, decide_eq_false hk'], fun _ => ?_, fun h => (nomatch h)⟩))))
      refine ws_asg (wx_meth 0 (ed_var rfl) rfl rfl (wa_nil ⟨rfl, _, rfl, p, _, a0 :: r, rfl, rfl, hw, fun e he => hc.ac e (by rw [hca]; exact he), by simp, by rw [← hca]; exact hc.len, hata, [], _, rfl, ?_⟩))
      exact ⟨rfl, rfl⟩
  rintro Γ' M' ⟨rfl, rfl⟩
  refine ws_seq (ws_drop (wx_methS 0 (ed_var rfl) rfl rfl (wa_pure (ea_cons ed_str ea_nil) ⟨Nat.le_of_ble_eq_true rfl, _, rfl, p, ["->"], _, t3, rfl, rfl, h3, by rw [k3]; exact List.mem_singleton.mpr rfl, [], _, rfl, ?_⟩)))
  walk_at "nrm"
  refine ws_seq (ws_asg (wx_meth 0 (ed_var rfl) rfl rfl (wa_nil ⟨rfl, _, rfl, p, _, c.pu, rfl, rfl, hc.pu, hat4, [], _, rfl, ?_⟩)))
  walk_at "nrm"
  refine ws_seq (ws_drop (wx_methS 0 (ed_var rfl) rfl rfl (wa_pure (ea_cons ed_str ea_nil) ⟨Nat.le_of_ble_eq_true rfl, _, rfl, p, [";"], _, t5, rfl, rfl, h5, by rw [k5]; exact List.mem_singleton.mpr rfl, [], _, rfl, ?_⟩)))
  walk_at "nrm"
  refine ws_ret (wx_frzI (wx_mkM (wa_pure (ea_cons (ed_fld (ed_var rfl) hT (T.k_Token.na _ (by simp)) rfl) (ea_cons (ed_cb (ea_cons (ed_var rfl) ea_nil) cd_tupL) (ea_cons (ed_var rfl) ea_nil))) ⟨rfl, fun q => ⟨q, _, _, _, rfl, rfl, _, rfl, rfl, fun hq => ⟨q, _, _, _, rfl, rfl, [], _, rfl, rfl, ?_⟩⟩⟩)))
  have e1 : s.i + (cardT c).length = s.i + 1 + 1 + (actsT c.ac).length + 1 + (putT c.pu).length + 1 := by
    simp only [cardT, List.length_cons, List.length_append, List.length_nil]
    omega
  rw [e1] at k
  rw [x0]
  exact k
abbrev s_Deck_init : Stmt := inClass (top 11) 0
abbrev N_Deck_init : List Str := ["self", "wrap", "cards", "card"]
theorem sc_Deck_init : FnScope N_Deck_init ["self", "wrap", "cards"] (defScope s_Deck_init) := ⟨rfl, rfl, rfl, by decide +kernel, rfl, by decide +kernel, by decide +kernel⟩

theorem c_Deck_init (T : Txt K mg a) : CalK P w K mg base 1 "Deck" a.deck ["self", "wrap", "cards"] (spD K 3 (S_Deck_init a)) := by
  refine T.k_Deck.cal fun f fd Fn => Fn.ok sc_Deck_init (fun vs H Q E h => spD_len h) (fun cdv A outer s H vs Q E HR h => ⟨_, (pss_cons (ps_fld (pv 0) (pv 1) rfl)
        (pss_cons (ps_fld (pv 0) (pv 2) rfl)
        (pss_cons (ps_fld (pv 0) (pe_callTy (call_tupleG (K := K) rfl) rfl T.b_tuple (by decide +kernel) (pa_cons (pe_lc (own := [("card", 3)]) (g := (gName 3)) (tt := tYes) rfl sc_Deck_init.nd (pi_list (pv 2)) (blkOk_by (N := N_Deck_init) (sc := defScope s_Deck_init) (by decide +kernel)) (fun _ _ _ _ _ => (pg_name (i := 3) sc_Deck_init.nd rfl (Or.inl rfl))) (fun _ _ _ _ _ => pts_nil) (fun _ _ _ _ _ => (pe_fldK (K := K) rfl (pv 3) rfl))) pa_nil)) rfl)
        (pss_one (ps_fld (pv 0) (pe_dc (own := [("card", 3)]) (g := (gName 3)) (tt := tYes) rfl sc_Deck_init.nd (pi_list (pv 2)) (blkOk_by (N := N_Deck_init) (sc := defScope s_Deck_init) (by decide +kernel)) (fun _ _ _ _ _ => pg_name (i := 3) sc_Deck_init.nd rfl (Or.inl rfl)) (fun _ _ _ _ _ => pts_nil) (fun _ _ _ _ _ => (pe_fldK (K := K) rfl (pv 3) rfl)) (fun _ _ _ _ _ => (pv 3))) rfl))))), body h (by decide) fun F M ds R hS hl => ?_⟩)
  obtain ⟨p, n, cs, rfl, rfl, hz, hnd, k⟩ := hS
  try dsimp only [cxOf, Cx.nox, Cx.wish]
  walk_at "nrm"
  have hc := T.k_Deck.cl
  have hC := T.k_Card.cl
  have hz2 : (cs.map (pC a)).length ≤ 60000 := by rw [List.length_map]; omega
  have at_ : ∀ {i : Nat} {e : Dv}, (cs.map (pC a))[i]? = some e → ∃ c, cs[i]? = some c ∧ e = pC a c := fun {i e} he => by
    rw [List.getElem?_map] at he
    cases h : cs[i]? with
    | none => rw [h] at he; cases he
    | some c => rw [h] at he; cases he; exact ⟨c, rfl, rfl⟩
  refine ws_seq (ws_fld (p := p) (wx_pure (ed_var rfl) ⟨ed_var rfl, hc, T.k_Deck.na _ (by simp), 0, _, rfl, by simp, ?_⟩))
  refine ws_seq (ws_fld (p := p) (wx_pure (ed_var rfl) ⟨ed_var rfl, hc, T.k_Deck.na _ (by simp), 0, _, rfl, Nat.le_of_ble_eq_true rfl, ?_⟩))
  refine ws_seq (ws_fld (p := p) (wx_pure (d := .tup (cs.map fun c => .str c.nm)) (ed_cb (ea_cons (ed_new (en_lcI (j := 3) (ed_var rfl) (.inl rfl) hz2 (by rw [List.length_map, List.length_map]) fun i e r he hr Dl => ?_)) ea_nil) cd_tupL) ⟨ed_var rfl, hc, T.k_Deck.na _ (by simp), 0, _, rfl, Nat.le_of_ble_eq_true rfl, ?_⟩))
  · obtain ⟨c, h1, rfl⟩ := at_ he
    rw [List.getElem?_map, h1] at hr
    cases hr
    exact ed_fld (ed_var rfl) hC (T.k_Card.na _ (by simp)) rfl
  refine ws_fld (p := p) (wx_pure (d := .dic (cs.map (nmK a))) (ed_dc (j := 3) (ed_var rfl) hz2 (by rw [List.length_map, List.length_map]) ?_ fun i e r he hr Dl => ?_) ⟨ed_var rfl, hc, T.k_Deck.na _ (by simp), 0, _, rfl, Nat.le_of_ble_eq_true rfl, ?_⟩)
  · rw [List.map_map]
    have e : ((fun x => x.1) ∘ nmK a) = ((Sum.inr : Str → Key) ∘ fun c : Cd => c.nm) := rfl
    rw [e, ← List.map_map]
    exact List.Pairwise.map _ (fun x y h z => h (Sum.inr.inj z)) hnd
  · obtain ⟨c, h1, rfl⟩ := at_ he
    rw [List.getElem?_map, h1] at hr
    cases hr
    exact ⟨ed_fld (ed_var rfl) hC (T.k_Card.na _ (by simp)) rfl, ed_var rfl⟩
  exact ⟨[], _, rfl, rfl, k⟩
abbrev s_Parser_read_deck : Stmt := inClass (top 38) 4
abbrev N_Parser_read_deck : List Str := ["self", "cards", "card"]
theorem sc_Parser_read_deck : FnScope N_Parser_read_deck ["self"] (defScope s_Parser_read_deck) := ⟨rfl, rfl, rfl, by decide +kernel, rfl, by decide +kernel, by decide +kernel⟩

theorem c_Parser_read_deck (T : Txt K mg a) : CalM P w K mg base 7 a.parser "read_deck" ["self"] (spD K 1 (S_Parser_read_deck a)) := by
  have C_Deck_init := c_Deck_init (P := P) (w := w) (base := base) T
  have C_Parser_read_card := c_Parser_read_card (P := P) (w := w) (base := base) T
  have C_Parser_read_number := c_Parser_read_number (P := P) (w := w) (base := base) T
  have C_Parser_sees := c_Parser_sees (P := P) (w := w) (base := base) T
  have C_Parser_take := c_Parser_take (P := P) (w := w) (base := base) T
  refine T.m_Parser_read_deck.cal T.k_Parser.cl fun f fd Fn => Fn.ok sc_Parser_read_deck (fun vs H Q E h => spD_len h) (fun cdv A outer s H vs Q E HR h => ⟨_, (pss_cons (ps_expr (pe_mthR C_Parser_take (HR.mono (by decide)) (pv 0) (pa_cons pe_str pa_nil)))
        (pss_cons (ps_fld (pv 0) (pe_mth C_Parser_read_number (HR.mono (by decide)) (pv 0) (pa_cons pe_str (pa_cons (pe_cst rfl T.c_LEAST_WRAP) (pa_cons (pe_cst rfl T.c_MOST_WRAP) pa_nil)))) rfl)
        (pss_cons (ps_expr (pe_mthR C_Parser_take (HR.mono (by decide)) (pv 0) (pa_cons pe_str pa_nil)))
        (pss_cons (ps_set (i := 1) sc_Parser_read_deck.nd rfl (Or.inl rfl) (pe_lst (pa_cons (pe_mth C_Parser_read_card (HR.mono (by decide)) (pv 0) (pa_cons (pe_lst pa_nil) pa_nil)) pa_nil)))
        (pss_cons (ps_while PassesOwn.never (pt_not (pt_tru (K := K) rfl (pe_mth C_Parser_sees (HR.mono (by decide)) (pv 0) (pa_cons pe_str pa_nil)))) (pss_one (ps_expr (pe_bm PySem.F.plainAttrs_list PySem.F.slot_list_append PySem.F.type_list_append mt_append (pv 1) (pa_cons (pe_mth C_Parser_read_card (HR.mono (by decide)) (pv 0) (pa_cons (pe_lc (own := [("card", 2)]) (g := (gName 2)) (tt := tYes) rfl sc_Parser_read_deck.nd (pi_list (pv 1)) (blkOk_by (N := N_Parser_read_deck) (sc := defScope s_Parser_read_deck) (by decide +kernel)) (fun _ _ _ _ _ => (pg_name (i := 2) sc_Parser_read_deck.nd rfl (Or.inl rfl))) (fun _ _ _ _ _ => pts_nil) (fun _ _ _ _ _ => (pe_fldK (K := K) rfl (pv 2) rfl))) pa_nil)) pa_nil)))))
        (pss_one (ps_ret (pe_mk C_Deck_init (HR.mono (by decide)) rfl (pa_cons (pe_fldK (K := K) rfl (pv 0) rfl) (pa_cons (pv 1) pa_nil)))))))))), body h (by decide) fun F M ds R hS hl => ?_⟩)
  obtain ⟨p, s, D, rfl, rfl, hD, hat, k⟩ := hS
  try dsimp only [cxOf, Cx.nox, Cx.wish]
  walk_at "nrm"
  have hP := T.k_Parser.cl
  have hC := T.k_Card.cl
  have hDl := hD.le
  have hlo := hD.lo
  have hhi := hD.hi
  cases hcs : D.cs with
  | nil => have := hD.ne; rw [hcs] at this; cases this
  | cons c0 cs =>
  obtain ⟨t0, h0, k0, x0, hat⟩ := At.hd hat
  obtain ⟨t1, h1, k1, x1, hat⟩ := At.hd hat
  obtain ⟨t2, h2, k2, x2, hat⟩ := At.hd hat
  have hat : At s.ts (s.i + 1 + 1 + 1) ((D.cs.map cardT).flatten ++ [(("end", "") : W2)]) := hat
  have hat0 : At s.ts (s.i + 1 + 1 + 1) (cardT c0 ++ ((cs.map cardT).flatten ++ [(("end", "") : W2)])) := by
    rw [hcs, List.map_cons, List.flatten_cons, List.append_assoc] at hat
    exact hat
  have hcok : ∀ c ∈ c0 :: cs, Cd.ok D.w c := fun c hc => hD.cs c (by rw [hcs]; exact hc)
  have hlen : (c0 :: cs).length ≤ 8 := by rw [← hcs]; exact hDl
  have hnd : ((c0 :: cs).map (·.nm)).Nodup := by rw [← hcs]; exact hD.nd
  refine ws_seq (ws_drop (wx_methS 0 (ed_var rfl) rfl rfl (wa_pure (ea_cons ed_str ea_nil) ⟨Nat.le_of_ble_eq_true rfl, _, rfl, p, ["wrap"], _, t0, rfl, rfl, h0, by rw [k0]; exact List.mem_singleton.mpr rfl, [], _, rfl, ?_⟩)))
  walk_at "nrm"
  refine ws_seq (ws_fld (p := p) (wx_meth 0 (ed_var rfl) rfl rfl (wa_pure (ea_cons ed_str (ea_cons (ed_c fun _ => .int _) (ea_cons (ed_c fun _ => .int _) ea_nil))) ⟨rfl, _, rfl, p, "wrap", 2, 16, _, t1, D.w, rfl, rfl, h1, k1, x1, by omega, by omega, by omega, [], _, rfl, ed_var rfl, hP, T.k_Parser.na _ (by simp), 0, _, rfl, Nat.le_of_ble_eq_true rfl, ?_⟩)))
  refine ws_seq (ws_drop (wx_methS 0 (ed_var rfl) rfl rfl (wa_pure (ea_cons ed_str ea_nil) ⟨Nat.le_of_ble_eq_true rfl, _, rfl, p, [";"], { s with i := s.i + 1 + 1, w := D.w }, t2, rfl, rfl, h2, by rw [k2]; exact List.mem_singleton.mpr rfl, [], _, rfl, ?_⟩)))
  walk_at "nrm"
  refine ws_seq (ws_asg (wx_newL (wa_cons (wx_meth 0 (ed_var rfl) rfl rfl (wa_pure (ea_cons (ed_lst ea_nil (Nat.zero_le _)) ea_nil) ⟨rfl, _, rfl, p, { s with i := s.i + 1 + 1 + 1, w := D.w }, c0, [], rfl, rfl, by show D.w ≤ 1000; omega, hcok _ (List.mem_cons_self ..), by decide, by simp, At.pre hat0, [], _, rfl, wa_nil ⟨Nat.le_of_ble_eq_true rfl, fun q hq => ?_⟩⟩)))))
  walk_at "nrm"
  have hqn : q ∉ [p] := fun z => hq (List.mem_append_left _ z)
  refine ws_cut (fun Γ' M' => Γ' = [some (.adr p), some (.adr q), none] ∧ ∃ i, M' = (q, .lst ((c0 :: cs).map (pC a))) :: pS a p { s with i := i, w := D.w }) ?_ ?_
  · refine ws_while (fun m Γ' M' => ∃ (done todo : List Cd) (i : Nat), c0 :: cs = done ++ todo ∧ m = todo.length ∧ Γ' = [some (.adr p), some (.adr q), none] ∧ M' = (q, .lst (done.map (pC a))) :: pS a p { s with i := i, w := D.w } ∧ At s.ts i ((todo.map cardT).flatten ++ [(("end", "") : W2)])) cs.length ⟨[c0], cs, _, rfl, rfl, rfl, rfl, At.post hat0⟩ ?_
    rintro m Γ' M' ⟨done, todo, i, hdt, rfl, rfl, rfl, hat'⟩
    have hl2 := congrArg List.length hdt
    rw [List.length_append] at hl2
    cases todo with
    | nil =>
      obtain ⟨t, h3, k3, x3, _⟩ := At.hd (k := "end") (x := "") hat'
      refine wt_not (wt_tru (wx_meth 1 (ed_var rfl) rfl rfl (wa_pure (ea_cons ed_str ea_nil) ⟨rfl, _, rfl, p, _, _, t, rfl, rfl, h3, [], _, rfl, true, by rw [k3]; rfl, fun h => (nomatch h), fun _ => ⟨rfl, i, ?_⟩⟩)))
      rw [List.append_nil] at hdt
      rw [hdt]
      rfl
    | cons c rest =>
      have hat2 : At s.ts i (cardT c ++ ((rest.map cardT).flatten ++ [(("end", "") : W2)])) := by
        rw [List.map_cons, List.flatten_cons, List.append_assoc] at hat'
        exact hat'
      obtain ⟨t, h3, k3, x3, _⟩ := At.hd (k := "name") (x := c.nm) hat2
      refine wt_not (wt_tru (wx_meth 1 (ed_var rfl) rfl rfl (wa_pure (ea_cons ed_str ea_nil) ⟨rfl, _, rfl, p, _, _, t, rfl, rfl, h3, [], _, rfl, false, by rw [k3]; rfl, fun _ => ?_, fun h => (nomatch h)⟩)))
      have hcm : c ∈ c0 :: cs := by rw [hdt]; exact List.mem_append_right _ (List.mem_cons_self ..)
      have hdl : done.length < 8 := by have : 0 < (c :: rest).length := Nat.succ_pos _; omega
      have hnn : c.nm ∉ done.map (·.nm) := fun hm => by
        rw [hdt, List.map_append, List.map_cons] at hnd
        exact (List.nodup_append.mp hnd).2.2 _ hm _ (List.mem_cons_self ..) rfl
      refine ws_app (ed_var rfl) ⟨_, List.mem_cons_self ..⟩ (wx_meth 1 (ed_var rfl) rfl rfl (wa_pure (ea_cons (ed_new (en_lcM (j := 2) (i := 0) (rs := (done.map (·.nm)).map Dv.str) (ed_var rfl) rfl (by rw [List.length_map]; omega) (by rw [List.length_map, List.length_map, List.length_map]) fun i e r he hr Dl => ?_)) ea_nil) ⟨rfl, _, rfl, p, { s with i := i, w := D.w }, c, done.map (·.nm), rfl, rfl, by show D.w ≤ 1000; omega, hcok c hcm, by rw [List.length_map]; exact hdl, hnn, At.pre hat2, [], _, rfl, 0, _, rfl, ?_, ?_⟩))
      · rw [List.getElem?_map] at he
        rw [List.map_map, List.getElem?_map] at hr
        cases h : done[i]? with
        | none => rw [h] at he; cases he
        | some c =>
          rw [h] at he hr
          cases he
          cases hr
          exact ed_fld (ed_var rfl) hC (T.k_Card.na _ (by simp)) rfl
      · rw [List.length_map]; omega
      · exact ⟨rest.length, Nat.lt_succ_self _, done ++ [c], rest, i + (cardT c).length, by rw [hdt, List.append_assoc]; rfl, rfl, rfl, by rw [List.map_append]; rfl, At.post hat2⟩
  rintro Γ' M' ⟨rfl, i, rfl⟩
  refine ws_frz 1 rfl hqn ?_
  walk_at "nrm"
  refine ws_ret (wx_frzI (wx_mkM (wa_pure (ea_cons (ed_fldM 0 (ed_var rfl) rfl hP (T.k_Parser.na _ (by simp)) rfl) (ea_cons (ed_var rfl) ea_nil)) ⟨rfl, fun r => ⟨r, D.w, c0 :: cs, rfl, rfl, by omega, hnd, _, rfl, rfl, fun hr => ⟨r, _, _, _, rfl, rfl, [], _, rfl, rfl, ?_⟩⟩⟩)))
  have := k { s with i := i, w := D.w } rfl
  have e : pD a D = .ins a.deck (gD a D.w (c0 :: cs)) := by rw [← hcs]; rfl
  rw [e] at this
  exact this
abbrev s_parse_deck : Stmt := top 37
abbrev N_parse_deck : List Str := ["text", "parser", "deck", "reason", "token"]
theorem sc_parse_deck : FnScope N_parse_deck ["text"] (defScope s_parse_deck) := ⟨rfl, rfl, rfl, by decide +kernel, rfl, by decide +kernel, by decide +kernel⟩

theorem c_parse_deck (T : Txt K mg a) : Cal P w K mg base 8 "parse_deck" ["text"] (spD K 1 (S_parse_deck a)) := by
  have C_Parser_init := c_Parser_init (P := P) (w := w) (base := base) T
  have C_Parser_read_deck := c_Parser_read_deck (P := P) (w := w) (base := base) T
  have C_read_tokens := c_read_tokens (P := P) (w := w) (base := base) T
  refine T.d_parse_deck.cal fun f fd Fn => Fn.ok sc_parse_deck (fun vs H Q E h => spD_len h) (fun cdv A outer s H vs Q E HR h => ⟨_, (pss_cons (ps_if (pt_not (pt_tru (K := K) rfl (pe_callB (call_isiG (K := K) rfl) rfl T.b_isinstance (by decide +kernel) (pa_cons (pv 0) (pa_cons (pe_bltn (v := .ty "str") rfl T.b_str rfl rfl) pa_nil))))) (pss_one ps_never) pss_nil)
        (pss_cons (ps_set (i := 1) sc_parse_deck.nd rfl (Or.inl rfl) (pe_mk C_Parser_init (HR.mono (by decide)) rfl (pa_cons (pe_cal C_read_tokens (HR.mono (by decide)) rfl (pa_cons (pv 0) pa_nil)) pa_nil)))
        (pss_cons (ps_set (i := 2) sc_parse_deck.nd rfl (Or.inl rfl) (pe_mth0 C_Parser_read_deck (HR.mono (by decide)) (pv 1)))
        (pss_cons (ps_if (pt_cmpR op_isnG (pe_fldK (K := K) rfl (pv 1) rfl) pe_non (nomark _)) (pss_cons (ps_asg (pe_fldK (K := K) rfl (pv 1) rfl) (pg_tup (n := 2) rfl (pgs_cons (pg_name (i := 3) sc_parse_deck.nd rfl (Or.inl rfl)) (pgs_cons (pg_name (i := 4) sc_parse_deck.nd rfl (Or.inl rfl)) pgs_nil))))
        (pss_one ps_never)) pss_nil)
        (pss_one (ps_ret (pv 2))))))), body h (by decide) fun F M ds R hS hl => ?_⟩)
  obtain ⟨x, D, ts, rfl, rfl, hD, hx, hr, hlx, htl, hat, k⟩ := hS
  try dsimp only [cxOf, Cx.nox, Cx.wish]
  walk_at "nrm"
  refine ws_seq (ws_if (wt_pure (b := false) (et_not (et_tru (ed_isi (ed_var rfl) rfl isi_ss) rfl)) ⟨fun h => (nomatch h), fun _ => ws_next ?_⟩))
  refine ws_seq (ws_asg (wx_mkM (wa_pure (ea_cons (ed_call (ea_cons (ed_var rfl) ea_nil) rfl ⟨x, ts, rfl, rfl, hx, hr, hlx, htl, rfl, rfl⟩) ea_nil) ⟨rfl, fun p => ⟨p, ts, rfl, rfl, _, rfl, rfl, fun hp => ?_⟩⟩)))
  walk_at "nrm"
  refine ws_seq (ws_asg (wx_meth 0 (ed_var rfl) rfl rfl (wa_nil ⟨rfl, _, rfl, p, ⟨ts, 0, .non, 0⟩, D, rfl, rfl, hD, hat, fun s' hs' => ⟨[], _, rfl, ?_⟩⟩)))
  walk_at "nrm"
  refine ws_seq (ws_if (wt_pure (b := false) (et_is (et_cmp (ed_op (ed_fldM 0 (ed_var rfl) rfl T.k_Parser.cl (T.k_Parser.na _ (by simp)) rfl) ed_non od_notN)) (by rw [hs']; rfl)) ⟨fun h => (nomatch h), fun _ => ws_next ?_⟩))
  exact ws_ret (wx_drp (wx_pure (ed_var rfl) ⟨_, _, rfl, [], [], rfl, rfl, k⟩))
abbrev s_equal : Stmt := top 57
abbrev N_equal : List Str := ["_law_actual", "_law_expected", "_law_k"]
theorem sc_equal : FnScope N_equal ["_law_actual", "_law_expected"] (defScope s_equal) := ⟨rfl, rfl, rfl, by decide +kernel, rfl, by decide +kernel, by decide +kernel⟩
theorem c_equal (T : Txt K mg a) : ∀ n, Cal P w K mg base (n + 1) "_law_equal" ["_law_actual", "_law_expected"] (spD K 2 (S_equal n))
  | 0 => by
    refine T.d_equal.cal fun f fd Fn => Fn.ok sc_equal (fun vs H Q E h => spD_len h) (fun cdv A outer s H vs Q E HR h => ⟨_, (pss_cons (ps_if (pt_cmpR op_isG (pv 1) pe_non (nomark _)) (pss_one (ps_ret (pe_cmpR op_isG (pv 0) pe_non (nomark _)))) pss_nil)
        (pss_cons (ps_if (pt_tru (K := K) rfl (pe_callB (call_isiG (K := K) rfl) rfl T.b_isinstance (by decide +kernel) (pa_cons (pv 1) (pa_cons (pe_bltn (v := .ty "bool") rfl T.b_bool rfl rfl) pa_nil)))) (pss_one (ps_ret (pe_and (pe_callB (call_isiG (K := K) rfl) rfl T.b_isinstance (by decide +kernel) (pa_cons (pv 0) (pa_cons (pe_bltn (v := .ty "bool") rfl T.b_bool rfl rfl) pa_nil))) (pe_one (pe_cmpR (op_eqG (K := K) rfl HR.units) (pv 0) (pv 1) (nomark _)))))) pss_nil)
        (pss_cons (ps_if (pt_tru (K := K) rfl (pe_callB (call_isiG (K := K) rfl) rfl T.b_isinstance (by decide +kernel) (pa_cons (pv 1) (pa_cons (pe_bltn (v := .ty "int") rfl T.b_int rfl rfl) pa_nil)))) (pss_one (ps_ret (pe_and (pe_callB (call_isiG (K := K) rfl) rfl T.b_isinstance (by decide +kernel) (pa_cons (pv 0) (pa_cons (pe_bltn (v := .ty "int") rfl T.b_int rfl rfl) pa_nil))) (pe_and (pe_notT (pe_callB (call_isiG (K := K) rfl) rfl T.b_isinstance (by decide +kernel) (pa_cons (pv 0) (pa_cons (pe_bltn (v := .ty "bool") rfl T.b_bool rfl rfl) pa_nil)))) (pe_one (pe_cmpR (op_eqG (K := K) rfl HR.units) (pv 0) (pv 1) (nomark _))))))) pss_nil)
        (pss_cons (ps_if (pt_tru (K := K) rfl (pe_callB (call_isiG (K := K) rfl) rfl T.b_isinstance (by decide +kernel) (pa_cons (pv 1) (pa_cons (pe_bltn (v := .ty "str") rfl T.b_str rfl rfl) pa_nil)))) (pss_one (ps_ret (pe_and (pe_callB (call_isiG (K := K) rfl) rfl T.b_isinstance (by decide +kernel) (pa_cons (pv 0) (pa_cons (pe_bltn (v := .ty "str") rfl T.b_str rfl rfl) pa_nil))) (pe_one (pe_cmpR (op_eqG (K := K) rfl HR.units) (pv 0) (pv 1) (nomark _)))))) pss_nil)
        (pss_cons (ps_if (pt_cmpR (op_neG (K := K) rfl HR.units) (pe_callB (call_isiG (K := K) rfl) rfl T.b_isinstance (by decide +kernel) (pa_cons (pv 1) (pa_cons (pe_bltn (v := .ty "tuple") rfl T.b_tuple rfl rfl) pa_nil))) (pe_callB (call_isiG (K := K) rfl) rfl T.b_isinstance (by decide +kernel) (pa_cons (pv 0) (pa_cons (pe_bltn (v := .ty "tuple") rfl T.b_tuple rfl rfl) pa_nil))) (nomark _)) (pss_one (ps_ret pe_bl)) pss_nil)
        (pss_cons (ps_if (pt_cmpR (op_neG (K := K) rfl HR.units) (pe_callB (call_isiG (K := K) rfl) rfl T.b_isinstance (by decide +kernel) (pa_cons (pv 1) (pa_cons (pe_bltn (v := .ty "list") rfl T.b_list rfl rfl) pa_nil))) (pe_callB (call_isiG (K := K) rfl) rfl T.b_isinstance (by decide +kernel) (pa_cons (pv 0) (pa_cons (pe_bltn (v := .ty "list") rfl T.b_list rfl rfl) pa_nil))) (nomark _)) (pss_one (ps_ret pe_bl)) pss_nil)
        (pss_cons (ps_if (pt_cmpR (op_neG (K := K) rfl HR.units) (pe_callB (call_lenG (K := K) rfl) rfl T.b_len (by decide +kernel) (pa_cons (pv 0) pa_nil)) (pe_callB (call_lenG (K := K) rfl) rfl T.b_len (by decide +kernel) (pa_cons (pv 1) pa_nil)) (nomark _)) (pss_one (ps_ret pe_bl)) pss_nil)
        (pss_one ps_never)))))))), body h (by decide) fun F M ds R hS hl => ?_⟩)
    obtain ⟨x, d, rfl, hE, k⟩ := hS
    try dsimp only [cxOf, Cx.nox, Cx.wish]
    walk_at "nrm"
    cases hE with
    | non =>
      refine ws_seq (ws_if (wt_pure (b := true) (et_cmp (ed_is (ed_op (ed_var rfl) ed_non od_isN) rfl)) ⟨fun _ => ?_, fun h => (nomatch h)⟩))
      exact ws_ret (wx_pure (ed_is (ed_op (ed_var rfl) ed_non od_isN) rfl) ⟨[], _, rfl, rfl, k⟩)
    | int i =>
      refine ws_seq (ws_if (wt_pure (b := false) (et_cmp (ed_is (ed_op (ed_var rfl) ed_non od_isN) rfl)) ⟨fun h => (nomatch h), fun _ => ws_next ?_⟩))
      refine ws_seq (ws_if (wt_pure (b := false) (et_tru (ed_isi (ed_var rfl) rfl (by rfl)) rfl) ⟨fun h => (nomatch h), fun _ => ws_next ?_⟩))
      refine ws_seq (ws_if (wt_pure (b := true) (et_tru (ed_isi (ed_var rfl) rfl (by rfl)) rfl) ⟨fun _ => ?_, fun h => (nomatch h)⟩))
      exact ws_ret (wx_pure (ed_is (ed_and (a := true) (ed_isi (ed_var rfl) rfl (by rfl)) fun _ => ed_and (a := true) (ed_notB (ed_isi (b := false) (ed_var rfl) rfl (by rfl))) fun _ => ed_op (ed_var rfl) (ed_var rfl) od_eqI) (by simp)) ⟨[], _, rfl, rfl, k⟩)
    | bl b =>
      refine ws_seq (ws_if (wt_pure (b := false) (et_cmp (ed_is (ed_op (ed_var rfl) ed_non od_isN) rfl)) ⟨fun h => (nomatch h), fun _ => ws_next ?_⟩))
      refine ws_seq (ws_if (wt_pure (b := true) (et_tru (ed_isi (ed_var rfl) rfl (by rfl)) rfl) ⟨fun _ => ?_, fun h => (nomatch h)⟩))
      exact ws_ret (wx_pure (ed_is (ed_and (a := true) (ed_isi (ed_var rfl) rfl (by rfl)) fun _ => ed_op (ed_var rfl) (ed_var rfl) od_eqB) (by simp)) ⟨[], _, rfl, rfl, k⟩)
    | str z =>
      refine ws_seq (ws_if (wt_pure (b := false) (et_cmp (ed_is (ed_op (ed_var rfl) ed_non od_isN) rfl)) ⟨fun h => (nomatch h), fun _ => ws_next ?_⟩))
      refine ws_seq (ws_if (wt_pure (b := false) (et_tru (ed_isi (ed_var rfl) rfl (by rfl)) rfl) ⟨fun h => (nomatch h), fun _ => ws_next ?_⟩))
      refine ws_seq (ws_if (wt_pure (b := false) (et_tru (ed_isi (ed_var rfl) rfl (by rfl)) rfl) ⟨fun h => (nomatch h), fun _ => ws_next ?_⟩))
      refine ws_seq (ws_if (wt_pure (b := true) (et_tru (ed_isi (ed_var rfl) rfl (by rfl)) rfl) ⟨fun _ => ?_, fun h => (nomatch h)⟩))
      exact ws_ret (wx_pure (ed_is (ed_and (a := true) (ed_isi (ed_var rfl) rfl (by rfl)) fun _ => ed_op (ed_var rfl) (ed_var rfl) od_eqS) (by simp)) ⟨[], _, rfl, rfl, k⟩)
  | n + 1 => by
    have C_equal := c_equal T n
    refine T.d_equal.cal fun f fd Fn => Fn.ok sc_equal (fun vs H Q E h => spD_len h) (fun cdv A outer s H vs Q E HR h => ⟨_, (pss_cons (ps_if (pt_cmpR op_isG (pv 1) pe_non (nomark _)) (pss_one (ps_ret (pe_cmpR op_isG (pv 0) pe_non (nomark _)))) pss_nil)
        (pss_cons (ps_if (pt_tru (K := K) rfl (pe_callB (call_isiG (K := K) rfl) rfl T.b_isinstance (by decide +kernel) (pa_cons (pv 1) (pa_cons (pe_bltn (v := .ty "bool") rfl T.b_bool rfl rfl) pa_nil)))) (pss_one (ps_ret (pe_and (pe_callB (call_isiG (K := K) rfl) rfl T.b_isinstance (by decide +kernel) (pa_cons (pv 0) (pa_cons (pe_bltn (v := .ty "bool") rfl T.b_bool rfl rfl) pa_nil))) (pe_one (pe_cmpR (op_eqG (K := K) rfl HR.units) (pv 0) (pv 1) (nomark _)))))) pss_nil)
        (pss_cons (ps_if (pt_tru (K := K) rfl (pe_callB (call_isiG (K := K) rfl) rfl T.b_isinstance (by decide +kernel) (pa_cons (pv 1) (pa_cons (pe_bltn (v := .ty "int") rfl T.b_int rfl rfl) pa_nil)))) (pss_one (ps_ret (pe_and (pe_callB (call_isiG (K := K) rfl) rfl T.b_isinstance (by decide +kernel) (pa_cons (pv 0) (pa_cons (pe_bltn (v := .ty "int") rfl T.b_int rfl rfl) pa_nil))) (pe_and (pe_notT (pe_callB (call_isiG (K := K) rfl) rfl T.b_isinstance (by decide +kernel) (pa_cons (pv 0) (pa_cons (pe_bltn (v := .ty "bool") rfl T.b_bool rfl rfl) pa_nil)))) (pe_one (pe_cmpR (op_eqG (K := K) rfl HR.units) (pv 0) (pv 1) (nomark _))))))) pss_nil)
        (pss_cons (ps_if (pt_tru (K := K) rfl (pe_callB (call_isiG (K := K) rfl) rfl T.b_isinstance (by decide +kernel) (pa_cons (pv 1) (pa_cons (pe_bltn (v := .ty "str") rfl T.b_str rfl rfl) pa_nil)))) (pss_one (ps_ret (pe_and (pe_callB (call_isiG (K := K) rfl) rfl T.b_isinstance (by decide +kernel) (pa_cons (pv 0) (pa_cons (pe_bltn (v := .ty "str") rfl T.b_str rfl rfl) pa_nil))) (pe_one (pe_cmpR (op_eqG (K := K) rfl HR.units) (pv 0) (pv 1) (nomark _)))))) pss_nil)
        (pss_cons (ps_if (pt_cmpR (op_neG (K := K) rfl HR.units) (pe_callB (call_isiG (K := K) rfl) rfl T.b_isinstance (by decide +kernel) (pa_cons (pv 1) (pa_cons (pe_bltn (v := .ty "tuple") rfl T.b_tuple rfl rfl) pa_nil))) (pe_callB (call_isiG (K := K) rfl) rfl T.b_isinstance (by decide +kernel) (pa_cons (pv 0) (pa_cons (pe_bltn (v := .ty "tuple") rfl T.b_tuple rfl rfl) pa_nil))) (nomark _)) (pss_one (ps_ret pe_bl)) pss_nil)
        (pss_cons (ps_if (pt_cmpR (op_neG (K := K) rfl HR.units) (pe_callB (call_isiG (K := K) rfl) rfl T.b_isinstance (by decide +kernel) (pa_cons (pv 1) (pa_cons (pe_bltn (v := .ty "list") rfl T.b_list rfl rfl) pa_nil))) (pe_callB (call_isiG (K := K) rfl) rfl T.b_isinstance (by decide +kernel) (pa_cons (pv 0) (pa_cons (pe_bltn (v := .ty "list") rfl T.b_list rfl rfl) pa_nil))) (nomark _)) (pss_one (ps_ret pe_bl)) pss_nil)
        (pss_cons (ps_if (pt_cmpR (op_neG (K := K) rfl HR.units) (pe_callB (call_lenG (K := K) rfl) rfl T.b_len (by decide +kernel) (pa_cons (pv 0) pa_nil)) (pe_callB (call_lenG (K := K) rfl) rfl T.b_len (by decide +kernel) (pa_cons (pv 1) pa_nil)) (nomark _)) (pss_one (ps_ret pe_bl)) pss_nil)
        (pss_one (ps_ret (pe_callB (call_allG (K := K) rfl rfl) rfl T.b_all (by decide +kernel) (pa_cons (pe_lc (own := [("_law_k", 2)]) (g := (gName 2)) (tt := tYes) rfl sc_equal.nd (pi_range1 rfl T.b_range (pa_cons (pe_callB (call_lenG (K := K) rfl) rfl T.b_len (by decide +kernel) (pa_cons (pv 1) pa_nil)) pa_nil)) (blkOk_by (N := N_equal) (sc := defScope s_equal) (by decide +kernel)) (fun _ _ _ _ _ => (pg_name (i := 2) sc_equal.nd rfl (Or.inl rfl))) (fun _ _ _ _ _ => pts_nil) (fun _ _ _ _ _ => (pe_cal C_equal HR rfl (pa_cons (pe_ix (ix_G (K := K) rfl) (pv 0) (pv 2) (fun _ _ => rfl)) (pa_cons (pe_ix (ix_G (K := K) rfl) (pv 1) (pv 2) (fun _ _ => rfl)) pa_nil))))) pa_nil))))))))))), body h (by decide) fun F M ds R hS hl => ?_⟩)
    obtain ⟨x, d, rfl, hE, k⟩ := hS
    try dsimp only [cxOf, Cx.nox, Cx.wish]
    walk_at "nrm"
    cases hE with
    | non =>
      refine ws_seq (ws_if (wt_pure (b := true) (et_cmp (ed_is (ed_op (ed_var rfl) ed_non od_isN) rfl)) ⟨fun _ => ?_, fun h => (nomatch h)⟩))
      exact ws_ret (wx_pure (ed_is (ed_op (ed_var rfl) ed_non od_isN) rfl) ⟨[], _, rfl, rfl, k⟩)
    | int i =>
      refine ws_seq (ws_if (wt_pure (b := false) (et_cmp (ed_is (ed_op (ed_var rfl) ed_non od_isN) rfl)) ⟨fun h => (nomatch h), fun _ => ws_next ?_⟩))
      refine ws_seq (ws_if (wt_pure (b := false) (et_tru (ed_isi (ed_var rfl) rfl (by rfl)) rfl) ⟨fun h => (nomatch h), fun _ => ws_next ?_⟩))
      refine ws_seq (ws_if (wt_pure (b := true) (et_tru (ed_isi (ed_var rfl) rfl (by rfl)) rfl) ⟨fun _ => ?_, fun h => (nomatch h)⟩))
      exact ws_ret (wx_pure (ed_is (ed_and (a := true) (ed_isi (ed_var rfl) rfl (by rfl)) fun _ => ed_and (a := true) (ed_notB (ed_isi (b := false) (ed_var rfl) rfl (by rfl))) fun _ => ed_op (ed_var rfl) (ed_var rfl) od_eqI) (by simp)) ⟨[], _, rfl, rfl, k⟩)
    | bl b =>
      refine ws_seq (ws_if (wt_pure (b := false) (et_cmp (ed_is (ed_op (ed_var rfl) ed_non od_isN) rfl)) ⟨fun h => (nomatch h), fun _ => ws_next ?_⟩))
      refine ws_seq (ws_if (wt_pure (b := true) (et_tru (ed_isi (ed_var rfl) rfl (by rfl)) rfl) ⟨fun _ => ?_, fun h => (nomatch h)⟩))
      exact ws_ret (wx_pure (ed_is (ed_and (a := true) (ed_isi (ed_var rfl) rfl (by rfl)) fun _ => ed_op (ed_var rfl) (ed_var rfl) od_eqB) (by simp)) ⟨[], _, rfl, rfl, k⟩)
    | str z =>
      refine ws_seq (ws_if (wt_pure (b := false) (et_cmp (ed_is (ed_op (ed_var rfl) ed_non od_isN) rfl)) ⟨fun h => (nomatch h), fun _ => ws_next ?_⟩))
      refine ws_seq (ws_if (wt_pure (b := false) (et_tru (ed_isi (ed_var rfl) rfl (by rfl)) rfl) ⟨fun h => (nomatch h), fun _ => ws_next ?_⟩))
      refine ws_seq (ws_if (wt_pure (b := false) (et_tru (ed_isi (ed_var rfl) rfl (by rfl)) rfl) ⟨fun h => (nomatch h), fun _ => ws_next ?_⟩))
      refine ws_seq (ws_if (wt_pure (b := true) (et_tru (ed_isi (ed_var rfl) rfl (by rfl)) rfl) ⟨fun _ => ?_, fun h => (nomatch h)⟩))
      exact ws_ret (wx_pure (ed_is (ed_and (a := true) (ed_isi (ed_var rfl) rfl (by rfl)) fun _ => ed_op (ed_var rfl) (ed_var rfl) od_eqS) (by simp)) ⟨[], _, rfl, rfl, k⟩)
    | @tup _ xs es hlen hz hall =>
      refine ws_seq (ws_if (wt_pure (b := false) (et_cmp (ed_is (ed_op (ed_var rfl) ed_non od_isN) rfl)) ⟨fun h => (nomatch h), fun _ => ws_next ?_⟩))
      refine ws_seq (ws_if (wt_pure (b := false) (et_tru (ed_isi (ed_var rfl) rfl (by rfl)) rfl) ⟨fun h => (nomatch h), fun _ => ws_next ?_⟩))
      refine ws_seq (ws_if (wt_pure (b := false) (et_tru (ed_isi (ed_var rfl) rfl (by rfl)) rfl) ⟨fun h => (nomatch h), fun _ => ws_next ?_⟩))
      refine ws_seq (ws_if (wt_pure (b := false) (et_tru (ed_isi (ed_var rfl) rfl (by rfl)) rfl) ⟨fun h => (nomatch h), fun _ => ws_next ?_⟩))
      refine ws_seq (ws_if (wt_pure (b := false) (et_cmp (ed_is (ed_op (ed_isi (ed_var rfl) rfl (by rfl)) (ed_isi (ed_var rfl) rfl (by rfl)) od_neB) rfl)) ⟨fun h => (nomatch h), fun _ => ws_next ?_⟩))
      refine ws_seq (ws_if (wt_pure (b := false) (et_cmp (ed_is (ed_op (ed_isi (ed_var rfl) rfl (by rfl)) (ed_isi (ed_var rfl) rfl (by rfl)) od_neB) rfl)) ⟨fun h => (nomatch h), fun _ => ws_next ?_⟩))
      refine ws_seq (ws_if (wt_pure (b := false) (et_is (et_cmp (ed_op (ed_cb (ea_cons (ed_var rfl) ea_nil) cd_lenT) (ed_cb (ea_cons (ed_var rfl) ea_nil) cd_lenT) od_neI)) (by rw [hlen]; simp)) ⟨fun h => (nomatch h), fun _ => ws_next ?_⟩))
      refine ws_ret (wx_cb (wa_cons (wx_frz (wx_lcR (wa_pure (ea_cons (ed_cb (ea_cons (ed_var rfl) ea_nil) cd_lenT) ea_nil) ⟨(es.length : Nat), rfl, by omega, by omega, fun i acc M' => acc = (List.replicate i true).map Dv.bl ∧ M' = M, ⟨rfl, rfl⟩, fun i hi => ?_, ?_⟩)))))
      · rintro acc M' ⟨rfl, rfl⟩
        have hi' : i < es.length := by omega
        have hx : xs[i]? = some xs[i] := by simp [hlen, hi']
        have hd : es[i]? = some es[i] := by simp [hi']
        refine ⟨by rw [List.length_map, List.length_replicate]; omega, fun Dl => wt_pure et_yes ⟨_, rfl, fun _ => ⟨by rw [List.length_map, List.length_replicate]; omega, ?_⟩, fun h => (nomatch h)⟩⟩
        refine wx_callT (wa_pure (ea_cons (ed_op (ed_var rfl) (ed_var rfl) (od_ixT (j := i) hx)) (ea_cons (ed_op (ed_var rfl) (ed_var rfl) (od_ixT (j := i) hd)) ea_nil)) ⟨rfl, [_], _, rfl, xs[i], es[i], rfl, hall i _ _ hx hd, fun N B' h1 h2 => ?_⟩)
        obtain ⟨rfl, rfl⟩ := tail_all h1 h2
        refine ⟨_, rfl, ?_, rfl⟩
        rw [List.replicate_succ', List.map_append]
        rfl
      · rintro acc M' ⟨rfl, rfl⟩ Dl hDl
        refine ⟨Dl, _, _, rfl, rfl, fun z => hDl (List.mem_append_left _ z), wa_nil ⟨_, cd_all, [], _, rfl, rfl, ?_⟩⟩
        have : (List.replicate (es.length : Int).toNat true).all id = true := by simp
        rw [this]
        exact k
    | @lst _ xs es hlen hz hall =>
      refine ws_seq (ws_if (wt_pure (b := false) (et_cmp (ed_is (ed_op (ed_var rfl) ed_non od_isN) rfl)) ⟨fun h => (nomatch h), fun _ => ws_next ?_⟩))
      refine ws_seq (ws_if (wt_pure (b := false) (et_tru (ed_isi (ed_var rfl) rfl (by rfl)) rfl) ⟨fun h => (nomatch h), fun _ => ws_next ?_⟩))
      refine ws_seq (ws_if (wt_pure (b := false) (et_tru (ed_isi (ed_var rfl) rfl (by rfl)) rfl) ⟨fun h => (nomatch h), fun _ => ws_next ?_⟩))
      refine ws_seq (ws_if (wt_pure (b := false) (et_tru (ed_isi (ed_var rfl) rfl (by rfl)) rfl) ⟨fun h => (nomatch h), fun _ => ws_next ?_⟩))
      refine ws_seq (ws_if (wt_pure (b := false) (et_cmp (ed_is (ed_op (ed_isi (ed_var rfl) rfl (by rfl)) (ed_isi (ed_var rfl) rfl (by rfl)) od_neB) rfl)) ⟨fun h => (nomatch h), fun _ => ws_next ?_⟩))
      refine ws_seq (ws_if (wt_pure (b := false) (et_cmp (ed_is (ed_op (ed_isi (ed_var rfl) rfl (by rfl)) (ed_isi (ed_var rfl) rfl (by rfl)) od_neB) rfl)) ⟨fun h => (nomatch h), fun _ => ws_next ?_⟩))
      refine ws_seq (ws_if (wt_pure (b := false) (et_is (et_cmp (ed_op (ed_cb (ea_cons (ed_var rfl) ea_nil) cd_lenL) (ed_cb (ea_cons (ed_var rfl) ea_nil) cd_lenL) od_neI)) (by rw [hlen]; simp)) ⟨fun h => (nomatch h), fun _ => ws_next ?_⟩))
      refine ws_ret (wx_cb (wa_cons (wx_frz (wx_lcR (wa_pure (ea_cons (ed_cb (ea_cons (ed_var rfl) ea_nil) cd_lenL) ea_nil) ⟨(es.length : Nat), rfl, by omega, by omega, fun i acc M' => acc = (List.replicate i true).map Dv.bl ∧ M' = M, ⟨rfl, rfl⟩, fun i hi => ?_, ?_⟩)))))
      · rintro acc M' ⟨rfl, rfl⟩
        have hi' : i < es.length := by omega
        have hx : xs[i]? = some xs[i] := by simp [hlen, hi']
        have hd : es[i]? = some es[i] := by simp [hi']
        refine ⟨by rw [List.length_map, List.length_replicate]; omega, fun Dl => wt_pure et_yes ⟨_, rfl, fun _ => ⟨by rw [List.length_map, List.length_replicate]; omega, ?_⟩, fun h => (nomatch h)⟩⟩
        refine wx_callT (wa_pure (ea_cons (ed_op (ed_var rfl) (ed_var rfl) (od_ixL (j := i) hx)) (ea_cons (ed_op (ed_var rfl) (ed_var rfl) (od_ixL (j := i) hd)) ea_nil)) ⟨rfl, [_], _, rfl, xs[i], es[i], rfl, hall i _ _ hx hd, fun N B' h1 h2 => ?_⟩)
        obtain ⟨rfl, rfl⟩ := tail_all h1 h2
        refine ⟨_, rfl, ?_, rfl⟩
        rw [List.replicate_succ', List.map_append]
        rfl
      · rintro acc M' ⟨rfl, rfl⟩ Dl hDl
        refine ⟨Dl, _, _, rfl, rfl, fun z => hDl (List.mem_append_left _ z), wa_nil ⟨_, cd_all, [], _, rfl, rfl, ?_⟩⟩
        have : (List.replicate (es.length : Int).toNat true).all id = true := by simp
        rw [this]
        exact k
    | @adr _ jj p xs es hp hlen hz hall =>
      refine ws_seq (ws_if (wt_pure (b := false) (et_cmp (ed_is (ed_op (ed_var rfl) ed_non od_isN) rfl)) ⟨fun h => (nomatch h), fun _ => ws_next ?_⟩))
      refine ws_seq (ws_if (wt_pure (b := false) (et_tru (ed_isi (ed_var rfl) rfl (by rfl)) rfl) ⟨fun h => (nomatch h), fun _ => ws_next ?_⟩))
      refine ws_seq (ws_if (wt_pure (b := false) (et_tru (ed_isi (ed_var rfl) rfl (by rfl)) rfl) ⟨fun h => (nomatch h), fun _ => ws_next ?_⟩))
      refine ws_seq (ws_if (wt_pure (b := false) (et_tru (ed_isi (ed_var rfl) rfl (by rfl)) rfl) ⟨fun h => (nomatch h), fun _ => ws_next ?_⟩))
      refine ws_seq (ws_if (wt_pure (b := false) (et_cmp (ed_is (ed_op (ed_isi (ed_var rfl) rfl (by rfl)) (ed_isiM (ed_var rfl) hp (by rfl)) od_neB) rfl)) ⟨fun h => (nomatch h), fun _ => ws_next ?_⟩))
      refine ws_seq (ws_if (wt_pure (b := false) (et_cmp (ed_is (ed_op (ed_isi (ed_var rfl) rfl (by rfl)) (ed_isiM (ed_var rfl) hp (by rfl)) od_neB) rfl)) ⟨fun h => (nomatch h), fun _ => ws_next ?_⟩))
      refine ws_seq (ws_if (wt_pure (b := false) (et_is (et_cmp (ed_op (ed_cb (ea_cons (ed_var rfl) ea_nil) (cd_lenM hp)) (ed_cb (ea_cons (ed_var rfl) ea_nil) cd_lenL) od_neI)) (by rw [hlen]; simp)) ⟨fun h => (nomatch h), fun _ => ws_next ?_⟩))
      refine ws_ret (wx_cb (wa_cons (wx_frz (wx_lcR (wa_pure (ea_cons (ed_cb (ea_cons (ed_var rfl) ea_nil) cd_lenL) ea_nil) ⟨(es.length : Nat), rfl, by omega, by omega, fun i acc M' => acc = (List.replicate i true).map Dv.bl ∧ M' = M, ⟨rfl, rfl⟩, fun i hi => ?_, ?_⟩)))))
      · rintro acc M' ⟨rfl, rfl⟩
        have hi' : i < es.length := by omega
        have hx : xs[i]? = some xs[i] := by simp [hlen, hi']
        have hd : es[i]? = some es[i] := by simp [hi']
        refine ⟨by rw [List.length_map, List.length_replicate]; omega, fun Dl => wt_pure et_yes ⟨_, rfl, fun _ => ⟨by rw [List.length_map, List.length_replicate]; omega, ?_⟩, fun h => (nomatch h)⟩⟩
        refine wx_callT (wa_pure (ea_cons (ed_op (ed_var rfl) (ed_var rfl) (od_ixM (i := jj + 1) (j := i) hp hx)) (ea_cons (ed_op (ed_var rfl) (ed_var rfl) (od_ixL (j := i) hd)) ea_nil)) ⟨rfl, [_], _, rfl, xs[i], es[i], rfl, hall i _ _ hx hd, fun N B' h1 h2 => ?_⟩)
        obtain ⟨rfl, rfl⟩ := tail_all h1 h2
        refine ⟨_, rfl, ?_, rfl⟩
        rw [List.replicate_succ', List.map_append]
        rfl
      · rintro acc M' ⟨rfl, rfl⟩ Dl hDl
        refine ⟨Dl, _, _, rfl, rfl, fun z => hDl (List.mem_append_left _ z), wa_nil ⟨_, cd_all, [], _, rfl, rfl, ?_⟩⟩
        have : (List.replicate (es.length : Int).toNat true).all id = true := by simp
        rw [this]
        exact k

abbrev s_measure : Stmt := top 47
abbrev N_measure : List Str := ["deck", "card"]
theorem sc_measure : FnScope N_measure ["deck"] (defScope s_measure) := ⟨rfl, rfl, rfl, by decide +kernel, rfl, by decide +kernel, by decide +kernel⟩

theorem c_measure (T : Txt K mg a) : Cal P w K mg base 9 "measure" ["deck"] (spD K 1 (S_measure a)) := by
  have C_parse_deck := c_parse_deck (P := P) (w := w) (base := base) T
  refine T.d_measure.cal fun f fd Fn => Fn.ok sc_measure (fun vs H Q E h => spD_len h) (fun cdv A outer s H vs Q E HR h => ⟨_, (pss_one (ps_ret (pe_callB (call_sumG (K := K) rfl rfl) rfl T.b_sum (by decide +kernel) (pa_cons (pe_lc (own := [("card", 1)]) (g := (gName 1)) (tt := tYes) rfl sc_measure.nd (pi_list (pe_fldK (K := K) rfl (pe_cal C_parse_deck (HR.mono (by decide)) rfl (pa_cons (pv 0) pa_nil)) rfl)) (blkOk_by (N := N_measure) (sc := defScope s_measure) (by decide +kernel)) (fun _ _ _ _ _ => (pg_name (i := 1) sc_measure.nd rfl (Or.inl rfl))) (fun _ _ _ _ _ => pts_nil) (fun _ _ _ _ _ => (pe_callB (call_lenG (K := K) rfl) rfl T.b_len (by decide +kernel) (pa_cons (pe_fldK (K := K) rfl (pv 1) rfl) pa_nil)))) pa_nil)))), body h (by decide) fun F M ds R hS hl => ?_⟩)
  obtain ⟨x, D, rfl, rfl, hx, k⟩ := hS
  try dsimp only [cxOf, Cx.nox, Cx.wish]
  walk_at "nrm"
  obtain ⟨ts, hlx, htl, hat⟩ := hx.lex
  have hDk := T.k_Deck.cl
  have hC := T.k_Card.cl
  have hD := hx.ok
  have hle := hD.le
  refine ws_ret (wx_pure (ed_is (ed_cb (ea_cons (ed_new (en_lcI (j := 1) (ds := D.cs.map (pC a)) (rs := (D.cs.map fun c => ((c.ac.length : Nat) : Int)).map Dv.int) (ed_fld (ed_callD (n := 1) (m := 0) (k := 1) (d := pD a D) rfl (ea_cons (ed_var rfl) ea_nil) rfl ⟨x, D, ts, rfl, rfl, hD, hx.len, hx.rows, hlx, htl, hat, rfl, rfl⟩) hDk (T.k_Deck.na _ (by simp)) rfl) (.inl rfl) (by rw [List.length_map]; omega) (by rw [List.length_map, List.length_map, List.length_map]) fun i e r he hr Dl => ?_)) ea_nil) cd_sum) (congrArg Dv.int (sum_cast (fun c : Cd => c.ac.length) D.cs))) ⟨[], [], rfl, rfl, k⟩)
  rw [List.getElem?_map] at he
  rw [List.map_map, List.getElem?_map] at hr
  cases h : D.cs[i]? with
  | none => rw [h] at he; cases he
  | some c =>
    rw [h] at he hr
    cases he
    cases hr
    exact ed_is (ed_cb (ea_cons (ed_fld (ed_var rfl) hC (T.k_Card.na _ (by simp)) rfl) ea_nil) cd_lenT) (by rw [List.length_map]; rfl)
abbrev s_card_names : Stmt := top 41
abbrev N_card_names : List Str := ["deck"]
theorem sc_card_names : FnScope N_card_names ["deck"] (defScope s_card_names) := ⟨rfl, rfl, rfl, by decide +kernel, rfl, by decide +kernel, by decide +kernel⟩

theorem c_card_names (T : Txt K mg a) : Cal P w K mg base 9 "card_names" ["deck"] (spD K 1 (S_card_names a)) := by
  have C_parse_deck := c_parse_deck (P := P) (w := w) (base := base) T
  refine T.d_card_names.cal fun f fd Fn => Fn.ok sc_card_names (fun vs H Q E h => spD_len h) (fun cdv A outer s H vs Q E HR h => ⟨_, (pss_one (ps_ret (pe_callTy (call_listG (K := K) rfl) rfl T.b_list (by decide +kernel) (pa_cons (pe_fldK (K := K) rfl (pe_cal C_parse_deck (HR.mono (by decide)) rfl (pa_cons (pv 0) pa_nil)) rfl) pa_nil)))), body h (by decide) fun F M ds R hS hl => ?_⟩)
  obtain ⟨x, D, rfl, rfl, hx, k⟩ := hS
  try dsimp only [cxOf, Cx.nox, Cx.wish]
  walk_at "nrm"
  obtain ⟨ts, hlx, htl, hat⟩ := hx.lex
  have hDk := T.k_Deck.cl
  have hD := hx.ok
  exact ws_ret (wx_new (en_list (ea_cons (ed_fld (ed_callD (n := 1) (m := 0) (k := 1) (d := pD a D) rfl (ea_cons (ed_var rfl) ea_nil) rfl ⟨x, D, ts, rfl, rfl, hD, hx.len, hx.rows, hlx, htl, hat, rfl, rfl⟩) hDk (T.k_Deck.na _ (by simp)) rfl) ea_nil) (.inr rfl)) fun q hq => ⟨[(q, _)], [], rfl, rfl, k q⟩)
abbrev s_write_put : Stmt := top 45
abbrev N_write_put : List Str := ["put", "kind", "letter"]
theorem sc_write_put : FnScope N_write_put ["put"] (defScope s_write_put) := ⟨rfl, rfl, rfl, by decide +kernel, rfl, by decide +kernel, by decide +kernel⟩

theorem c_write_put (T : Txt K mg a) : Cal P w K mg base 1 "write_put" ["put"] (spD K 1 S_write_put) := by
  refine T.d_write_put.cal fun f fd Fn => Fn.ok sc_write_put (fun vs H Q E h => spD_len h) (fun cdv A outer s H vs Q E HR h => ⟨_, (pss_cons (ps_set (i := 1) sc_write_put.nd rfl (Or.inl rfl) (pe_ix (ix_G (K := K) rfl) (pv 0) pe_int (fun _ _ => rfl)))
        (pss_cons (ps_if (pt_cmpR (op_eqG (K := K) rfl HR.units) (pv 1) (pe_cst rfl T.c_PUT_NUMBER) (nomark _)) (pss_one (ps_ret (pe_joined1 (pe_fmt (pe_ix (ix_G (K := K) rfl) (pv 0) pe_int (fun _ _ => rfl)))))) pss_nil)
        (pss_cons (ps_set (i := 2) sc_write_put.nd rfl (Or.inl rfl) (pe_ix (ix_G (K := K) rfl) (pe_tc (K := K) (mg := mg) rfl rfl T.c_REGISTERS) (pe_ix (ix_G (K := K) rfl) (pv 0) pe_int (fun _ _ => rfl)) (fun _ _ => rfl)))
        (pss_cons (ps_if (pt_cmpR (op_eqG (K := K) rfl HR.units) (pv 1) (pe_cst rfl T.c_PUT_LETTER) (nomark _)) (pss_one (ps_ret (pv 2))) pss_nil)
        (pss_one (ps_ret (pe_joined (.cons (pe_fmt (pv 2)) (.cons pe_str (.cons (pe_fmt (pe_ix (ix_G (K := K) rfl) (pv 0) pe_int (fun _ _ => rfl))) (.cons pe_str (.cons (pe_fmt (pe_ix (ix_G (K := K) rfl) (pv 0) pe_int (fun _ _ => rfl))) .nil)))))))))))), body h (by decide) fun F M ds R hS hl => ?_⟩)
  obtain ⟨c, rfl, rfl, hc, k⟩ := hS
  try dsimp only [cxOf, Cx.nox, Cx.wish]
  walk_at "nrm"
  have rg : ∀ r < 4, ∃ z : Str, (["p", "q", "r", "s"] : List Str)[r]? = some z ∧ tl z = regL r ∧ z.length = 1 := fun r hr => by
    match r, hr with
    | 0, _ => exact ⟨"p", rfl, rfl, rfl⟩
    | 1, _ => exact ⟨"q", rfl, rfl, rfl⟩
    | 2, _ => exact ⟨"r", rfl, rfl, rfl⟩
    | 3, _ => exact ⟨"s", rfl, rfl, rfl⟩
  refine ws_seq (ws_asg (wx_pure (d := match c with | .num _ => iN 0 | .reg _ => iN 1 | .cho .. => iN 2) (by cases c <;> exact ed_op (ed_var rfl) ed_int (od_ixT (j := 0) rfl)) ?_))
  walk_at "nrm"
  cases c with
  | num n =>
    have hn : n ≤ 9 := hc
    refine ws_seq (ws_if (wt_pure (b := true) (et_cmp (ed_is (ed_op (ed_var rfl) (ed_c fun _ => .int _) od_eqI) rfl)) ⟨fun _ => ?_, fun h => (nomatch h)⟩))
    exact ws_ret (wx_pure (ed_is (ed_fmtI (n := n) (ed_op (ed_var rfl) ed_int (od_ixT (j := 1) rfl)) (by omega)) (by rw [num_mk]; rfl)) ⟨[], [], rfl, rfl, k⟩)
  | reg r =>
    obtain ⟨z, hz, hz1, hz2⟩ := rg r hc
    refine ws_seq (ws_if (wt_pure (b := false) (et_cmp (ed_is (ed_op (ed_var rfl) (ed_c fun _ => .int _) od_eqI) rfl)) ⟨fun h => (nomatch h), fun _ => ws_next ?_⟩))
    refine ws_seq (ws_asg (wx_pure (d := .str z) (ed_op ed_tc (ed_op (ed_var rfl) ed_int (od_ixT (j := 1) rfl)) (od_ixT (j := r) (by
      rw [show ([.str "p", .str "q", .str "r", .str "s"] : List Dv) = (["p", "q", "r", "s"] : List Str).map Dv.str from rfl, List.getElem?_map, hz]
      rfl))) ?_))
    walk_at "nrm"
    refine ws_seq (ws_if (wt_pure (b := true) (et_cmp (ed_is (ed_op (ed_var rfl) (ed_c fun _ => .int _) od_eqI) rfl)) ⟨fun _ => ?_, fun h => (nomatch h)⟩))
    exact ws_ret (wx_pure (ed_is (ed_var rfl) (congrArg Dv.str (ext_tl hz1))) ⟨[], [], rfl, rfl, k⟩)
  | cho r m n =>
    obtain ⟨hr, hm, hn⟩ : r < 4 ∧ m ≤ 9 ∧ n ≤ 9 := hc
    obtain ⟨z, hz, hz1, hz2⟩ := rg r hr
    refine ws_seq (ws_if (wt_pure (b := false) (et_cmp (ed_is (ed_op (ed_var rfl) (ed_c fun _ => .int _) od_eqI) rfl)) ⟨fun h => (nomatch h), fun _ => ws_next ?_⟩))
    refine ws_seq (ws_asg (wx_pure (d := .str z) (ed_op ed_tc (ed_op (ed_var rfl) ed_int (od_ixT (j := 1) rfl)) (od_ixT (j := r) (by
      rw [show ([.str "p", .str "q", .str "r", .str "s"] : List Dv) = (["p", "q", "r", "s"] : List Str).map Dv.str from rfl, List.getElem?_map, hz]
      rfl))) ?_))
    walk_at "nrm"
    refine ws_seq (ws_if (wt_pure (b := false) (et_cmp (ed_is (ed_op (ed_var rfl) (ed_c fun _ => .int _) od_eqI) rfl)) ⟨fun h => (nomatch h), fun _ => ws_next ?_⟩))
    have hlm : (num m).length ≤ 3 := num_le (by omega)
    have hln : (num n).length ≤ 3 := num_le (by omega)
    exact ws_ret (wx_pure (ed_js (ej_cons (n := 1) (ed_fmtS (ed_var rfl) (by omega)) (by omega) (ej_cons (n := 3) ed_str (Nat.le_refl _) (ej_cons (n := 3) (ed_fmtI (n := m) (ed_op (ed_var rfl) ed_int (od_ixT (j := 2) rfl)) (by omega)) hlm (ej_cons (n := 3) ed_str (Nat.le_refl _) (ej_cons (n := 3) (ed_fmtI (n := n) (ed_op (ed_var rfl) ed_int (od_ixT (j := 3) rfl)) (by omega)) hln ej_nil))))) (by decide) (by
      simp only [List.map_cons, List.map_nil, List.flatten_cons, List.flatten_nil, List.append_nil, hz1, tl_num']
      show _ = regL r ++ [32, 63, 32] ++ numL m ++ [32, 58, 32] ++ numL n
      simp only [List.append_assoc]
      rfl)) ⟨[], [], rfl, rfl, k⟩)
abbrev s_write_action : Stmt := top 44
abbrev N_write_action : List Str := ["action", "kind", "letter"]
theorem sc_write_action : FnScope N_write_action ["action"] (defScope s_write_action) := ⟨rfl, rfl, rfl, by decide +kernel, rfl, by decide +kernel, by decide +kernel⟩

theorem c_write_action (T : Txt K mg a) : Cal P w K mg base 1 "write_action" ["action"] (spD K 1 S_write_action) := by
  refine T.d_write_action.cal fun f fd Fn => Fn.ok sc_write_action (fun vs H Q E h => spD_len h) (fun cdv A outer s H vs Q E HR h => ⟨_, (pss_cons (ps_set (i := 1) sc_write_action.nd rfl (Or.inl rfl) (pe_ix (ix_G (K := K) rfl) (pv 0) pe_int (fun _ _ => rfl)))
        (pss_cons (ps_if (pt_cmpR (op_eqG (K := K) rfl HR.units) (pv 1) (pe_cst rfl T.c_EMIT_NUMBER) (nomark _)) (pss_one (ps_ret (pe_joined (.cons pe_str (.cons (pe_fmt (pe_ix (ix_G (K := K) rfl) (pv 0) pe_int (fun _ _ => rfl))) .nil))))) pss_nil)
        (pss_cons (ps_set (i := 2) sc_write_action.nd rfl (Or.inl rfl) (pe_ix (ix_G (K := K) rfl) (pe_tc (K := K) (mg := mg) rfl rfl T.c_REGISTERS) (pe_ix (ix_G (K := K) rfl) (pv 0) pe_int (fun _ _ => rfl)) (fun _ _ => rfl)))
        (pss_cons (ps_if (pt_cmpR (op_eqG (K := K) rfl HR.units) (pv 1) (pe_cst rfl T.c_EMIT_LETTER) (nomark _)) (pss_one (ps_ret (pe_joined (.cons pe_str (.cons (pe_fmt (pv 2)) .nil))))) pss_nil)
        (pss_cons (ps_if (pt_cmpR (op_eqG (K := K) rfl HR.units) (pv 1) (pe_cst rfl T.c_ADD) (nomark _)) (pss_one (ps_ret (pe_joined (.cons pe_str (.cons (pe_fmt (pv 2)) (.cons pe_str (.cons (pe_fmt (pe_ix (ix_G (K := K) rfl) (pv 0) pe_int (fun _ _ => rfl))) .nil))))))) pss_nil)
        (pss_cons (ps_if (pt_cmpR (op_eqG (K := K) rfl HR.units) (pv 1) (pe_cst rfl T.c_COPY) (nomark _)) (pss_one (ps_ret (pe_joined (.cons pe_str (.cons (pe_fmt (pv 2)) (.cons pe_str (.cons (pe_fmt (pe_ix (ix_G (K := K) rfl) (pe_tc (K := K) (mg := mg) rfl rfl T.c_REGISTERS) (pe_ix (ix_G (K := K) rfl) (pv 0) pe_int (fun _ _ => rfl)) (fun _ _ => rfl))) .nil))))))) pss_nil)
        (pss_one (ps_ret (pe_joined (.cons pe_str (.cons (pe_fmt (pv 2)) (.cons pe_str (.cons (pe_fmt (pe_ix (ix_G (K := K) rfl) (pe_tc (K := K) (mg := mg) rfl rfl T.c_REGISTERS) (pe_ix (ix_G (K := K) rfl) (pv 0) pe_int (fun _ _ => rfl)) (fun _ _ => rfl))) .nil))))))))))))), body h (by decide) fun F M ds R hS hl => ?_⟩)
  obtain ⟨c, w, rfl, rfl, hw, hc, k⟩ := hS
  try dsimp only [cxOf, Cx.nox, Cx.wish]
  walk_at "nrm"
  have rg : ∀ r < 4, ∃ z : Str, (["p", "q", "r", "s"] : List Str)[r]? = some z ∧ tl z = regL r ∧ z.length = 1 := fun r hr => by
    match r, hr with
    | 0, _ => exact ⟨"p", rfl, rfl, rfl⟩
    | 1, _ => exact ⟨"q", rfl, rfl, rfl⟩
    | 2, _ => exact ⟨"r", rfl, rfl, rfl⟩
    | 3, _ => exact ⟨"s", rfl, rfl, rfl⟩
  have rgD : ∀ {r : Nat} {z : Str}, (["p", "q", "r", "s"] : List Str)[r]? = some z → ([.str "p", .str "q", .str "r", .str "s"] : List Dv)[r]? = some (.str z) := fun {r z} hz => by
    rw [show ([.str "p", .str "q", .str "r", .str "s"] : List Dv) = (["p", "q", "r", "s"] : List Str).map Dv.str from rfl, List.getElem?_map, hz]
    rfl
  cases c with
  | add r n =>
    obtain ⟨hr, hn⟩ : r < 4 ∧ n < w := hc
    obtain ⟨z, hz, hz1, hz2⟩ := rg r hr
    have hln : (num n).length ≤ 3 := num_le (by omega)
    refine ws_seq (ws_asg (wx_pure (ed_op (ed_var rfl) ed_int (od_ixT (j := 0) rfl)) ?_))
    walk_at "nrm"
    refine ws_seq (ws_if (wt_pure (b := false) (et_cmp (ed_is (ed_op (ed_var rfl) (ed_c fun _ => .int _) od_eqI) rfl)) ⟨fun h => (nomatch h), fun _ => ws_next ?_⟩))
    refine ws_seq (ws_asg (wx_pure (d := .str z) (ed_op ed_tc (ed_op (ed_var rfl) ed_int (od_ixT (j := 1) rfl)) (od_ixT (j := r) (rgD hz))) ?_))
    walk_at "nrm"
    refine ws_seq (ws_if (wt_pure (b := false) (et_cmp (ed_is (ed_op (ed_var rfl) (ed_c fun _ => .int _) od_eqI) rfl)) ⟨fun h => (nomatch h), fun _ => ws_next ?_⟩))
    refine ws_seq (ws_if (wt_pure (b := true) (et_cmp (ed_is (ed_op (ed_var rfl) (ed_c fun _ => .int _) od_eqI) rfl)) ⟨fun _ => ?_, fun h => (nomatch h)⟩))
    exact ws_ret (wx_pure (ed_js (ej_cons (n := 4) ed_str (Nat.le_refl _) (ej_cons (n := 1) (ed_fmtS (ed_var rfl) (by omega)) (by omega) (ej_cons (n := 1) ed_str (Nat.le_refl _) (ej_cons (n := 3) (ed_fmtI (n := n) (ed_op (ed_var rfl) ed_int (od_ixT (j := 2) rfl)) (by omega)) hln ej_nil)))) (by decide) (by
      simp only [List.map_cons, List.map_nil, List.flatten_cons, List.flatten_nil, List.append_nil, hz1, tl_num']
      show _ = [97, 100, 100, 32] ++ regL r ++ [32] ++ numL n
      simp only [List.append_assoc]
      rfl)) ⟨[], [], rfl, rfl, k⟩)
  | copy r s =>
    obtain ⟨hr, hs⟩ : r < 4 ∧ s < 4 := hc
    obtain ⟨z, hz, hz1, hz2⟩ := rg r hr
    obtain ⟨y, hy, hy1, hy2⟩ := rg s hs
    refine ws_seq (ws_asg (wx_pure (ed_op (ed_var rfl) ed_int (od_ixT (j := 0) rfl)) ?_))
    walk_at "nrm"
    refine ws_seq (ws_if (wt_pure (b := false) (et_cmp (ed_is (ed_op (ed_var rfl) (ed_c fun _ => .int _) od_eqI) rfl)) ⟨fun h => (nomatch h), fun _ => ws_next ?_⟩))
    refine ws_seq (ws_asg (wx_pure (d := .str z) (ed_op ed_tc (ed_op (ed_var rfl) ed_int (od_ixT (j := 1) rfl)) (od_ixT (j := r) (rgD hz))) ?_))
    walk_at "nrm"
    refine ws_seq (ws_if (wt_pure (b := false) (et_cmp (ed_is (ed_op (ed_var rfl) (ed_c fun _ => .int _) od_eqI) rfl)) ⟨fun h => (nomatch h), fun _ => ws_next ?_⟩))
    refine ws_seq (ws_if (wt_pure (b := false) (et_cmp (ed_is (ed_op (ed_var rfl) (ed_c fun _ => .int _) od_eqI) rfl)) ⟨fun h => (nomatch h), fun _ => ws_next ?_⟩))
    refine ws_seq (ws_if (wt_pure (b := true) (et_cmp (ed_is (ed_op (ed_var rfl) (ed_c fun _ => .int _) od_eqI) rfl)) ⟨fun _ => ?_, fun h => (nomatch h)⟩))
    exact ws_ret (wx_pure (ed_js (ej_cons (n := 5) ed_str (Nat.le_refl _) (ej_cons (n := 1) (ed_fmtS (ed_var rfl) (by omega)) (by omega) (ej_cons (n := 1) ed_str (Nat.le_refl _) (ej_cons (n := 1) (ed_fmtS (y := y) (ed_op ed_tc (ed_op (ed_var rfl) ed_int (od_ixT (j := 2) rfl)) (od_ixT (j := s) (rgD hy))) (by omega)) (by omega) ej_nil)))) (by decide) (by
      simp only [List.map_cons, List.map_nil, List.flatten_cons, List.flatten_nil, List.append_nil, hz1, hy1]
      show _ = [99, 111, 112, 121, 32] ++ regL r ++ [32] ++ regL s
      simp only [List.append_assoc]
      rfl)) ⟨[], [], rfl, rfl, k⟩)
  | swap r s =>
    obtain ⟨hr, hs⟩ : r < 4 ∧ s < 4 := hc
    obtain ⟨z, hz, hz1, hz2⟩ := rg r hr
    obtain ⟨y, hy, hy1, hy2⟩ := rg s hs
    refine ws_seq (ws_asg (wx_pure (ed_op (ed_var rfl) ed_int (od_ixT (j := 0) rfl)) ?_))
    walk_at "nrm"
    refine ws_seq (ws_if (wt_pure (b := false) (et_cmp (ed_is (ed_op (ed_var rfl) (ed_c fun _ => .int _) od_eqI) rfl)) ⟨fun h => (nomatch h), fun _ => ws_next ?_⟩))
    refine ws_seq (ws_asg (wx_pure (d := .str z) (ed_op ed_tc (ed_op (ed_var rfl) ed_int (od_ixT (j := 1) rfl)) (od_ixT (j := r) (rgD hz))) ?_))
    walk_at "nrm"
    refine ws_seq (ws_if (wt_pure (b := false) (et_cmp (ed_is (ed_op (ed_var rfl) (ed_c fun _ => .int _) od_eqI) rfl)) ⟨fun h => (nomatch h), fun _ => ws_next ?_⟩))
    refine ws_seq (ws_if (wt_pure (b := false) (et_cmp (ed_is (ed_op (ed_var rfl) (ed_c fun _ => .int _) od_eqI) rfl)) ⟨fun h => (nomatch h), fun _ => ws_next ?_⟩))
    refine ws_seq (ws_if (wt_pure (b := false) (et_cmp (ed_is (ed_op (ed_var rfl) (ed_c fun _ => .int _) od_eqI) rfl)) ⟨fun h => (nomatch h), fun _ => ws_next ?_⟩))
    exact ws_ret (wx_pure (ed_js (ej_cons (n := 5) ed_str (Nat.le_refl _) (ej_cons (n := 1) (ed_fmtS (ed_var rfl) (by omega)) (by omega) (ej_cons (n := 1) ed_str (Nat.le_refl _) (ej_cons (n := 1) (ed_fmtS (y := y) (ed_op ed_tc (ed_op (ed_var rfl) ed_int (od_ixT (j := 2) rfl)) (od_ixT (j := s) (rgD hy))) (by omega)) (by omega) ej_nil)))) (by decide) (by
      simp only [List.map_cons, List.map_nil, List.flatten_cons, List.flatten_nil, List.append_nil, hz1, hy1]
      show _ = [115, 119, 97, 112, 32] ++ regL r ++ [32] ++ regL s
      simp only [List.append_assoc]
      rfl)) ⟨[], [], rfl, rfl, k⟩)
  | emr r =>
    obtain ⟨z, hz, hz1, hz2⟩ := rg r hc
    refine ws_seq (ws_asg (wx_pure (ed_op (ed_var rfl) ed_int (od_ixT (j := 0) rfl)) ?_))
    walk_at "nrm"
    refine ws_seq (ws_if (wt_pure (b := false) (et_cmp (ed_is (ed_op (ed_var rfl) (ed_c fun _ => .int _) od_eqI) rfl)) ⟨fun h => (nomatch h), fun _ => ws_next ?_⟩))
    refine ws_seq (ws_asg (wx_pure (d := .str z) (ed_op ed_tc (ed_op (ed_var rfl) ed_int (od_ixT (j := 1) rfl)) (od_ixT (j := r) (rgD hz))) ?_))
    walk_at "nrm"
    refine ws_seq (ws_if (wt_pure (b := true) (et_cmp (ed_is (ed_op (ed_var rfl) (ed_c fun _ => .int _) od_eqI) rfl)) ⟨fun _ => ?_, fun h => (nomatch h)⟩))
    exact ws_ret (wx_pure (ed_js (ej_cons (n := 5) ed_str (Nat.le_refl _) (ej_cons (n := 1) (ed_fmtS (ed_var rfl) (by omega)) (by omega) ej_nil)) (by decide) (by
      simp only [List.map_cons, List.map_nil, List.flatten_cons, List.flatten_nil, List.append_nil, hz1]
      rfl)) ⟨[], [], rfl, rfl, k⟩)
  | emn n =>
    have hn : n < w := hc
    have hln : (num n).length ≤ 3 := num_le (by omega)
    refine ws_seq (ws_asg (wx_pure (ed_op (ed_var rfl) ed_int (od_ixT (j := 0) rfl)) ?_))
    walk_at "nrm"
    refine ws_seq (ws_if (wt_pure (b := true) (et_cmp (ed_is (ed_op (ed_var rfl) (ed_c fun _ => .int _) od_eqI) rfl)) ⟨fun _ => ?_, fun h => (nomatch h)⟩))
    exact ws_ret (wx_pure (ed_js (ej_cons (n := 5) ed_str (Nat.le_refl _) (ej_cons (n := 3) (ed_fmtI (n := n) (ed_op (ed_var rfl) ed_int (od_ixT (j := 1) rfl)) (by omega)) hln ej_nil)) (by decide) (by
      simp only [List.map_cons, List.map_nil, List.flatten_cons, List.flatten_nil, List.append_nil, tl_num']
      rfl)) ⟨[], [], rfl, rfl, k⟩)
abbrev s_write_card : Stmt := top 43
abbrev N_write_card : List Str := ["card", "put", "actions", "action"]
theorem sc_write_card : FnScope N_write_card ["card"] (defScope s_write_card) := ⟨rfl, rfl, rfl, by decide +kernel, rfl, by decide +kernel, by decide +kernel⟩

theorem c_write_card (T : Txt K mg a) : Cal P w K mg base 2 "write_card" ["card"] (spD K 1 (S_write_card a)) := by
  have C_write_action := c_write_action (P := P) (w := w) (base := base) T
  have C_write_put := c_write_put (P := P) (w := w) (base := base) T
  refine T.d_write_card.cal fun f fd Fn => Fn.ok sc_write_card (fun vs H Q E h => spD_len h) (fun cdv A outer s H vs Q E HR h => ⟨_, (pss_cons (ps_set (i := 1) sc_write_card.nd rfl (Or.inl rfl) (pe_cal C_write_put (HR.mono (by decide)) rfl (pa_cons (pe_fldK (K := K) rfl (pv 0) rfl) pa_nil)))
        (pss_cons (ps_if (pt_not (pt_tru (K := K) rfl (pe_fldK (K := K) rfl (pv 0) rfl))) (pss_one (ps_ret (pe_joined (.cons (pe_fmt (pe_fldK (K := K) rfl (pv 0) rfl)) (.cons pe_str (.cons (pe_fmt (pv 1)) (.cons pe_str .nil))))))) pss_nil)
        (pss_cons (ps_set (i := 2) sc_write_card.nd rfl (Or.inl rfl) (pe_bm PySem.F.plainAttrs_str PySem.F.slot_str_join PySem.F.type_str_join (mt_joinG (K := K) rfl) pe_str (pa_cons (pe_lc (own := [("action", 3)]) (g := (gName 3)) (tt := tYes) rfl sc_write_card.nd (pi_tup (pe_fldK (K := K) rfl (pv 0) rfl)) (blkOk_by (N := N_write_card) (sc := defScope s_write_card) (by decide +kernel)) (fun _ _ _ _ _ => (pg_name (i := 3) sc_write_card.nd rfl (Or.inl rfl))) (fun _ _ _ _ _ => pts_nil) (fun _ _ _ _ _ => (pe_cal C_write_action (HR.mono (by decide)) rfl (pa_cons (pv 3) pa_nil)))) pa_nil)))
        (pss_one (ps_ret (pe_joined (.cons (pe_fmt (pe_fldK (K := K) rfl (pv 0) rfl)) (.cons pe_str (.cons (pe_fmt (pv 2)) (.cons pe_str (.cons (pe_fmt (pv 1)) (.cons pe_str .nil)))))))))))), body h (by decide) fun F M ds R hS hl => ?_⟩)
  obtain ⟨c, w, rfl, rfl, hw, hok, k⟩ := hS
  try dsimp only [cxOf, Cx.nox, Cx.wish]
  walk_at "nrm"
  have hC := T.k_Card.cl
  have hnm := names_le _ hok.nm
  have hpl := putL_le hok.pu
  have hpl2 : (mk (putL c.pu)).length ≤ 20 := by rw [mk_len]; exact hpl
  have hj := joinL_len hok hw
  have hlen := hok.len
  have hsum : (((c.ac.map fun a => mk (actL a))).map (·.length)).sum + (c.ac.map fun a => mk (actL a)).length * (", " : Str).length ≤ 1000000 := by
    have : ∀ l : List Ac, (∀ a ∈ l, a.ok w) → ((l.map fun a => mk (actL a)).map (·.length)).sum ≤ l.length * 20 := fun l => by
      induction l with
      | nil => intro _; simp
      | cons a l ih =>
        intro h
        have h1 := actL_le hw (h a (List.mem_cons_self ..))
        have h2 := ih fun x hx => h x (List.mem_cons_of_mem _ hx)
        simp only [List.map_cons, List.sum_cons, List.length_cons, mk_len] at h1 h2 ⊢
        omega
    have h1 := this c.ac hok.ac
    have h3 : (", " : Str).length = 2 := by decide +kernel
    rw [h3, List.length_map]
    omega
  refine ws_seq (ws_asg (wx_pure (d := .str (mk (putL c.pu))) (ed_callD (n := 1) (m := 0) (k := 1) rfl (ea_cons (ed_fld (ed_var rfl) hC (T.k_Card.na _ (by simp)) rfl) ea_nil) rfl ⟨c.pu, rfl, rfl, hok.pu, rfl, rfl⟩) ?_))
  walk_at "nrm"
  have htj : tl (Str.join ", " (c.ac.map fun a => mk (actL a))) = joinL [44, 32] (c.ac.map actL) := by
    rw [tl_join, List.map_map]
    rfl
  by_cases he : c.ac = []
  · refine ws_seq (ws_if (wt_pure (b := true) (et_is (et_not (et_tru (b := false) (ed_fld (ed_var rfl) hC (T.k_Card.na _ (by simp)) rfl) (by rw [he]; rfl))) rfl) ⟨fun _ => ?_, fun h => (nomatch h)⟩))
    exact ws_ret (wx_pure (ed_js (ej_cons (n := 8) (ed_fmtS (y := c.nm) (ed_fld (ed_var rfl) hC (T.k_Card.na _ (by simp)) rfl) (by omega)) hnm (ej_cons (n := 5) ed_str (Nat.le_refl _) (ej_cons (n := 20) (ed_fmtS (ed_var rfl) (by omega)) hpl2 (ej_cons (n := 1) ed_str (Nat.le_refl _) ej_nil)))) (by decide) (by
      simp only [List.map_cons, List.map_nil, List.flatten_cons, List.flatten_nil, List.append_nil]
      show _ = tl c.nm ++ [58, 32] ++ joinL [44, 32] (c.ac.map actL) ++ (if c.ac = [] then [] else [32]) ++ [45, 62, 32] ++ putL c.pu ++ [59]
      rw [if_pos he, he]
      simp only [List.append_assoc]
      rfl)) ⟨[], [], rfl, rfl, k⟩)
  · refine ws_seq (ws_if (wt_pure (b := false) (et_is (et_not (et_tru (b := true) (ed_fld (ed_var rfl) hC (T.k_Card.na _ (by simp)) rfl) (by
      cases h : c.ac with
      | nil => exact absurd h he
      | cons x l => rfl))) rfl) ⟨fun h => (nomatch h), fun _ => ws_next ?_⟩))
    refine ws_seq (ws_asg (wx_pure (d := .str (Str.join ", " (c.ac.map fun a => mk (actL a)))) (ed_bmS ed_str (ea_cons (ed_new (en_lcT (j := 3) (ds := c.ac.map pA) (rs := (c.ac.map fun a => mk (actL a)).map Dv.str) (ed_fld (ed_var rfl) hC (T.k_Card.na _ (by simp)) rfl) (by rw [List.length_map]; omega) (by rw [List.length_map, List.length_map, List.length_map]) fun i e r he hr Dl => ?_)) ea_nil) (md_join hsum)) ?_))
    · rw [List.getElem?_map] at he
      rw [List.map_map, List.getElem?_map] at hr
      cases h : c.ac[i]? with
      | none => rw [h] at he; cases he
      | some x =>
        rw [h] at he hr
        cases he
        cases hr
        exact ed_callD (n := 1) (m := 0) (k := 1) rfl (ea_cons (ed_var rfl) ea_nil) rfl ⟨x, w, rfl, rfl, hw, hok.ac x (List.mem_of_getElem? h), rfl, rfl⟩
    walk_at "nrm"
    exact ws_ret (wx_pure (ed_js (ej_cons (n := 8) (ed_fmtS (y := c.nm) (ed_fld (ed_var rfl) hC (T.k_Card.na _ (by simp)) rfl) (by omega)) hnm (ej_cons (n := 2) ed_str (Nat.le_refl _) (ej_cons (n := 200) (ed_fmtS (ed_var rfl) (by omega)) hj (ej_cons (n := 4) ed_str (Nat.le_refl _) (ej_cons (n := 20) (ed_fmtS (ed_var rfl) (by omega)) hpl2 (ej_cons (n := 1) ed_str (Nat.le_refl _) ej_nil)))))) (by decide) (by
      simp only [List.map_cons, List.map_nil, List.flatten_cons, List.flatten_nil, List.append_nil, htj]
      show _ = tl c.nm ++ [58, 32] ++ joinL [44, 32] (c.ac.map actL) ++ (if c.ac = [] then [] else [32]) ++ [45, 62, 32] ++ putL c.pu ++ [59]
      rw [if_neg he]
      simp only [List.append_assoc]
      rfl)) ⟨[], [], rfl, rfl, k⟩)
abbrev s_write_deck : Stmt := top 42
abbrev N_write_deck : List Str := ["deck", "card"]
theorem sc_write_deck : FnScope N_write_deck ["deck"] (defScope s_write_deck) := ⟨rfl, rfl, rfl, by decide +kernel, rfl, by decide +kernel, by decide +kernel⟩

theorem c_write_deck (T : Txt K mg a) : Cal P w K mg base 3 "write_deck" ["deck"] (spD K 1 (S_write_deck a)) := by
  have C_write_card := c_write_card (P := P) (w := w) (base := base) T
  refine T.d_write_deck.cal fun f fd Fn => Fn.ok sc_write_deck (fun vs H Q E h => spD_len h) (fun cdv A outer s H vs Q E HR h => ⟨_, (pss_one (ps_ret (pe_bm PySem.F.plainAttrs_str PySem.F.slot_str_join PySem.F.type_str_join (mt_joinG (K := K) rfl) pe_str (pa_cons (pe_op (op_addG (K := K) rfl) (pe_lst (pa_cons (pe_joined (.cons pe_str (.cons (pe_fmt (pe_fldK (K := K) rfl (pv 0) rfl)) (.cons pe_str .nil)))) pa_nil)) (pe_lc (own := [("card", 1)]) (g := (gName 1)) (tt := tYes) rfl sc_write_deck.nd (pi_list (pe_fldK (K := K) rfl (pv 0) rfl)) (blkOk_by (N := N_write_deck) (sc := defScope s_write_deck) (by decide +kernel)) (fun _ _ _ _ _ => (pg_name (i := 1) sc_write_deck.nd rfl (Or.inl rfl))) (fun _ _ _ _ _ => pts_nil) (fun _ _ _ _ _ => (pe_cal C_write_card (HR.mono (by decide)) rfl (pa_cons (pv 1) pa_nil))))) pa_nil)))), body h (by decide) fun F M ds R hS hl => ?_⟩)
  obtain ⟨D, rfl, rfl, hD, k⟩ := hS
  try dsimp only [cxOf, Cx.nox, Cx.wish]
  walk_at "nrm"
  have hDk := T.k_Deck.cl
  have hle := hD.le
  have hhi := hD.hi
  have hln : (num D.w).length ≤ 3 := num_le (by omega)
  have hl0 : (mk ([119, 114, 97, 112, 32] ++ numL D.w ++ [59])).length ≤ 20 := by
    rw [mk_len, List.length_append, List.length_append]
    have := numL_le (n := D.w) (by omega)
    simp only [List.length_cons, List.length_nil]
    omega
  have hsum : (((mk ([119, 114, 97, 112, 32] ++ numL D.w ++ [59]) :: D.cs.map fun c => mk (cardL c))).map (·.length)).sum + ((mk ([119, 114, 97, 112, 32] ++ numL D.w ++ [59]) :: D.cs.map fun c => mk (cardL c))).length * ("\n" : Str).length ≤ 1000000 := by
    have : ∀ l : List Cd, (∀ c ∈ l, c ∈ D.cs) → ((l.map fun c => mk (cardL c)).map (·.length)).sum ≤ l.length * 300 := fun l => by
      induction l with
      | nil => intro _; simp
      | cons c l ih =>
        intro h
        have h1 := cardL_le (w := D.w) (by omega) (hD.cs c (h c (List.mem_cons_self ..)))
        have h2 := ih fun x hx => h x (List.mem_cons_of_mem _ hx)
        simp only [List.map_cons, List.sum_cons, List.length_cons, mk_len] at h1 h2 ⊢
        omega
    have h1 := this D.cs fun _ h => h
    have h3 : ("\n" : Str).length = 1 := by decide +kernel
    rw [h3, List.map_cons, List.sum_cons, List.length_cons, List.length_map]
    omega
  refine ws_ret (wx_pure (ed_is (ed_bmS ed_str (ea_cons (ed_is (ed_new (en_addL (i := [.str (mk ([119, 114, 97, 112, 32] ++ numL D.w ++ [59]))]) (j := (D.cs.map fun c => mk (cardL c)).map Dv.str) (ed_lst (ea_cons (ed_js (ej_cons (n := 5) ed_str (Nat.le_refl _) (ej_cons (n := 3) (ed_fmtI (n := D.w) (ed_fld (ed_var rfl) hDk (T.k_Deck.na _ (by simp)) rfl) (by omega)) hln (ej_cons (n := 1) ed_str (Nat.le_refl _) ej_nil))) (by decide) ?_) ea_nil) (Nat.le_of_ble_eq_true rfl)) (ed_new (en_lcI (j := 1) (ds := D.cs.map (pC a)) (ed_fld (ed_var rfl) hDk (T.k_Deck.na _ (by simp)) rfl) (.inl rfl) (by rw [List.length_map]; omega) (by rw [List.length_map, List.length_map, List.length_map]) fun i e r he hr Dl => ?_)) ?_)) (show _ = Dv.lst ((mk ([119, 114, 97, 112, 32] ++ numL D.w ++ [59]) :: D.cs.map fun c => mk (cardL c)).map Dv.str) from rfl)) ea_nil) (md_join hsum)) (congrArg Dv.str (ext_tl ?_))) ⟨[], [], rfl, rfl, k⟩)
  · simp only [List.map_cons, List.map_nil, List.flatten_cons, List.flatten_nil, List.append_nil, tl_num']
    show _ = [119, 114, 97, 112, 32] ++ numL D.w ++ [59]
    simp only [List.append_assoc]
    rfl
  · rw [List.getElem?_map] at he
    rw [List.map_map, List.getElem?_map] at hr
    cases h : D.cs[i]? with
    | none => rw [h] at he; cases he
    | some c =>
      rw [h] at he hr
      cases he
      cases hr
      exact ed_callD (n := 1) (m := 0) (k := 1) rfl (ea_cons (ed_var rfl) ea_nil) rfl ⟨c, D.w, rfl, rfl, by omega, hD.cs c (List.mem_of_getElem? h), rfl, rfl⟩
  · rw [List.length_map, List.length_map, List.length_singleton]
    omega
  · rw [tl_join, List.map_cons, List.map_map]
    rfl
abbrev s_format_deck : Stmt := top 40
abbrev N_format_deck : List Str := ["deck"]
theorem sc_format_deck : FnScope N_format_deck ["deck"] (defScope s_format_deck) := ⟨rfl, rfl, rfl, by decide +kernel, rfl, by decide +kernel, by decide +kernel⟩

theorem c_format_deck (T : Txt K mg a) : Cal P w K mg base 9 "format_deck" ["deck"] (spD K 1 (S_format_deck a)) := by
  have C_parse_deck := c_parse_deck (P := P) (w := w) (base := base) T
  have C_write_deck := c_write_deck (P := P) (w := w) (base := base) T
  refine T.d_format_deck.cal fun f fd Fn => Fn.ok sc_format_deck (fun vs H Q E h => spD_len h) (fun cdv A outer s H vs Q E HR h => ⟨_, (pss_one (ps_ret (pe_cal C_write_deck (HR.mono (by decide)) rfl (pa_cons (pe_cal C_parse_deck (HR.mono (by decide)) rfl (pa_cons (pv 0) pa_nil)) pa_nil)))), body h (by decide) fun F M ds R hS hl => ?_⟩)
  obtain ⟨x, D, rfl, rfl, hx, k⟩ := hS
  try dsimp only [cxOf, Cx.nox, Cx.wish]
  walk_at "nrm"
  obtain ⟨ts, hlx, htl, hat⟩ := hx.lex
  have hD := hx.ok
  exact ws_ret (wx_call0 (wa_cons (wx_call0 (wa_pure (ea_cons (ed_var rfl) ea_nil) ⟨rfl, x, D, ts, rfl, rfl, hD, hx.len, hx.rows, hlx, htl, hat, wa_nil ⟨rfl, D, rfl, rfl, hD, [], [], rfl, rfl, k⟩⟩))))
abbrev s_law : Stmt := top 58
abbrev N_law : List Str := ["_law_script", "_law_d", "_law_step", "_law_deck_here", "_law_text_here", "_law_loose", "_law_k", "_law_beside", "_law_free", "_law_gaps", "_law_names", "_law_found", "_law_one", "_law_card"]
theorem sc_law : FnScope N_law ["_law_script"] (defScope s_law) := ⟨rfl, rfl, rfl, by decide +kernel, rfl, by decide +kernel, by decide +kernel⟩

theorem ok_law (T : Txt K mg a) : ∀ f fd, Fun K "law" "law" s_law f fd → FnOk P w K mg base CX0 10 f fd ["_law_script"] (spD K 1 S_law) := by
  have C_below := c_below (P := P) (w := w) (base := base) T
  have C_card_names := c_card_names (P := P) (w := w) (base := base) T
  have C_deck := c_deck (P := P) (w := w) (base := base) T
  have C_equal := c_equal (P := P) (w := w) (base := base) T 5
  have C_format_deck := c_format_deck (P := P) (w := w) (base := base) T
  have C_measure := c_measure (P := P) (w := w) (base := base) T
  have C_random := c_random (P := P) (w := w) (base := base) T
  have C_text := c_text (P := P) (w := w) (base := base) T
  refine fun f fd Fn => Fn.ok sc_law (fun vs H Q E h => spD_len h) (fun cdv A outer s H vs Q E HR h => ⟨_, (pss_cons (ps_set (i := 1) sc_law.nd rfl (Or.inl rfl) (pe_cal C_random (HR.mono (by decide)) rfl (pa_cons (pv 0) (pa_cons pe_int pa_nil))))
        (pss_cons (ps_for PassesOwn.never rfl (pi_range1 rfl T.b_range (pa_cons pe_int pa_nil)) (pg_name (i := 2) sc_law.nd rfl (Or.inl rfl)) (pss_cons (ps_set (i := 3) sc_law.nd rfl (Or.inl rfl) (pe_cal C_deck (HR.mono (by decide)) rfl (pa_cons (pv 1) (pa_cons pe_int pa_nil))))
        (pss_cons (ps_set (i := 4) sc_law.nd rfl (Or.inl rfl) (pe_cal C_text (HR.mono (by decide)) rfl (pa_cons (pv 3) pa_nil)))
        (pss_cons (ps_set (i := 5) sc_law.nd rfl (Or.inl rfl) pe_str)
        (pss_cons (ps_for PassesOwn.never rfl (pi_range1 rfl T.b_range (pa_cons (pe_callB (call_lenG (K := K) rfl) rfl T.b_len (by decide +kernel) (pa_cons (pv 4) pa_nil)) pa_nil)) (pg_name (i := 6) sc_law.nd rfl (Or.inl rfl)) (pss_cons (ps_set (i := 7) sc_law.nd rfl (Or.inl rfl) (pe_op (op_addG (K := K) rfl) (pe_slice (sl_G (K := K) rfl) (pv 4) (po_some (pe_callB (call_maxG rfl) rfl T.b_max (by decide +kernel) (pa_cons pe_int (pa_cons (pe_op op_subG (pv 6) pe_int) pa_nil)))) (po_some (pv 6))) (pe_slice (sl_G (K := K) rfl) (pv 4) (po_some (pe_op (op_addG (K := K) rfl) (pv 6) pe_int)) (po_some (pe_op (op_addG (K := K) rfl) (pv 6) pe_int)))))
        (pss_cons (ps_set (i := 8) sc_law.nd rfl (Or.inl rfl) (pe_or (pe_cmpR (op_neG (K := K) rfl HR.units) (pe_lc (own := [("_law_one", 12)]) (g := (gName 12)) (tt := _) rfl sc_law.nd (pi_str (pv 7)) (blkOk_by (N := N_law) (sc := defScope s_law) (by decide +kernel)) (fun _ _ _ _ _ => (pg_name (i := 12) sc_law.nd rfl (Or.inl rfl))) (fun _ _ _ _ _ => pts_one (pt_cmpR (op_inG (K := K) rfl (room65 HR)) (pv 12) pe_str (by rfl))) (fun _ _ _ _ _ => (pv 12))) (pe_lst pa_nil) (nomark _)) (pe_one (pe_cmpR (op_eqG (K := K) rfl HR.units) (pe_slice (sl_G (K := K) rfl) (pv 4) (po_some (pe_op (op_addG (K := K) rfl) (pv 6) pe_int)) (po_some (pe_op (op_addG (K := K) rfl) (pv 6) pe_int))) pe_str (nomark _)))))
        (pss_one (ps_if (pt_cmpR (op_inG (K := K) rfl (room65 HR)) (pe_ix (ix_G (K := K) rfl) (pv 4) (pv 6) (fun _ _ => rfl)) (pe_lst (pa_cons pe_str (pa_cons pe_str pa_nil))) (by rfl)) (pss_cons (ps_set (i := 9) sc_law.nd rfl (Or.inl rfl) (pe_ifExp (pt_tru (K := K) rfl (pv 8)) (pe_lst (pa_cons pe_str (pa_cons pe_str (pa_cons pe_str pa_nil)))) (pe_lst (pa_cons pe_str (pa_cons pe_str (pa_cons pe_str pa_nil))))))
        (pss_one (ps_set (i := 5) sc_law.nd rfl (Or.inl rfl) (pe_op (op_addG (K := K) rfl) (pv 5) (pe_ix (ix_G (K := K) rfl) (pv 9) (pe_cal C_below (HR.mono (by decide)) rfl (pa_cons (pv 1) (pa_cons pe_int pa_nil))) (fun _ _ => rfl)))))) (pss_one (ps_set (i := 5) sc_law.nd rfl (Or.inl rfl) (pe_op (op_addG (K := K) rfl) (pv 5) (pe_ix (ix_G (K := K) rfl) (pv 4) (pv 6) (fun _ _ => rfl))))))))))
        (pss_cons (ps_setLc (own := [("_law_card", 13)]) (g := (gName 13)) (tt := tYes) (i := 10) rfl sc_law.nd rfl rfl (sw_true rfl rfl rfl (by decide +kernel)) (pi_list (pe_ix (ix_G (K := K) rfl) (pv 3) pe_int (fun _ _ => rfl))) (blkOk_by (N := N_law) (sc := defScope s_law) (by decide +kernel)) (fun _ _ _ _ _ => (pg_name (i := 13) sc_law.nd rfl (Or.inl rfl))) (fun _ _ _ _ _ => pts_nil) (fun _ _ _ _ _ => (pe_ix (ix_G (K := K) rfl) (pv 13) pe_int (fun _ _ => rfl))))
        (pss_cons (ps_set (i := 11) sc_law.nd rfl (Or.inl rfl) (pe_cal C_card_names (HR.mono (by decide)) rfl (pa_cons (pv 5) pa_nil)))
        (pss_cons (ps_if (pt_not (pt_tru (K := K) rfl (pe_cal C_equal (HR.mono (by decide)) rfl (pa_cons (pe_lst (pa_cons (pe_cal C_format_deck (HR.mono (by decide)) rfl (pa_cons (pv 4) pa_nil)) (pa_cons (pe_cal C_format_deck (HR.mono (by decide)) rfl (pa_cons (pv 5) pa_nil)) (pa_cons (pv 11) pa_nil)))) (pa_cons (pe_lst (pa_cons (pv 4) (pa_cons (pv 4) (pa_cons (pv 10) pa_nil)))) pa_nil))))) (pss_one (ps_ret pe_bl)) pss_nil)
        (pss_cons (ps_expr (pe_bm PySem.F.plainAttrs_list PySem.F.slot_list_append PySem.F.type_list_append mt_append (pv 11) (pa_cons pe_int pa_nil)))
        (pss_one (ps_if (PW.pt (pw_or (pt_not (pt_tru (K := K) rfl (pe_cal C_equal (HR.mono (by decide)) rfl (pa_cons (pe_cal C_measure (HR.mono (by decide)) rfl (pa_cons (pv 5) pa_nil)) (pa_cons (pe_callB (call_sumG (K := K) rfl rfl) rfl T.b_sum (by decide +kernel) (pa_cons (pe_lc (own := [("_law_card", 13)]) (g := (gName 13)) (tt := tYes) rfl sc_law.nd (pi_list (pe_ix (ix_G (K := K) rfl) (pv 3) pe_int (fun _ _ => rfl))) (blkOk_by (N := N_law) (sc := defScope s_law) (by decide +kernel)) (fun _ _ _ _ _ => (pg_name (i := 13) sc_law.nd rfl (Or.inl rfl))) (fun _ _ _ _ _ => pts_nil) (fun _ _ _ _ _ => (pe_callB (call_lenG (K := K) rfl) rfl T.b_len (by decide +kernel) (pa_cons (pe_ix (ix_G (K := K) rfl) (pv 13) pe_int (fun _ _ => rfl)) pa_nil)))) pa_nil)) pa_nil))))) (pw_or1 (pt_cmpR (op_neG (K := K) rfl HR.units) (pe_cal C_card_names (HR.mono (by decide)) rfl (pa_cons (pv 4) pa_nil)) (pv 10) (nomark _))))) (pss_one (ps_ret pe_bl)) pss_nil)))))))))))
        (pss_one (ps_ret pe_bl)))), body h (by decide) fun F M ds R hS hl => ?_⟩)
  obtain ⟨ns, rfl, rfl, hns, k⟩ := hS
  try dsimp only [cxOf, Cx.nox, Cx.wish]
  walk_at "nrm"
  refine ws_seq (ws_asg (wx_call0 (wa_pure (ea_cons (ed_var rfl) (ea_cons ed_int ea_nil)) ⟨rfl, ns, 3, rfl, rfl, hns, by decide, by decide, fun r l h1 => ?_⟩)))
  walk_at "nrm"
  refine ws_cut (fun Γ' M' => ∃ l, M' = [(r, rl l)]) ?_ ?_
  · refine ws_forR (wa_pure (ea_cons ed_int ea_nil) ⟨4, rfl, by decide, by decide, fun i Γ' M' => ∃ l, M' = [(r, rl l)] ∧ Rnd l ∧ ∃ c2 c3 c4 c5 c6 c7 c8 c9 c10 c11, Γ' = [some (.sql (ns.map .int)), some (.adr r), c2, c3, c4, c5, c6, c7, c8, c9, c10, c11, none, none], ⟨l, rfl, h1, none, none, none, none, none, none, none, none, none, none, rfl⟩, ?_, ?_⟩)
    · rintro si Γ' M' hsi ⟨l, rfl, h1, c2, c3, c4, c5, c6, c7, c8, c9, c10, c11, rfl⟩
      refine ⟨_, tg_name, ?_⟩
      walk_at "nrm"
      refine ws_seq (ws_asg (wx_call1 (wa_pure (ea_cons (ed_var rfl) (ea_cons ed_int ea_nil)) ⟨rfl, 0, r, _, rfl, r, l, 8, rfl, rfl, h1, by decide, by decide, fun D l1 hD _ h1 => ⟨[], _, rfl, ?_⟩⟩)))
      walk_at "nrm"
      have hx := txOk_of hD
      have hle8 := hD.le
      have hdl := deckL_le hD
      have hnp : Ps 1 (.lst (D.cs.map nmD)) := fun e he => by
        obtain ⟨c, hc, rfl⟩ := List.mem_map.mp he
        exact strOkA hD hc
      refine ws_seq (ws_asg (wx_call0 (wa_pure (ea_cons (ed_var rfl) ea_nil) ⟨rfl, D, rfl, rfl, hD, ?_⟩)))
      walk_at "nrm"
      have htl : tl (mk (deckL D)) = deckL D := rfl
      have hxl : (mk (deckL D)).length = (deckL D).length := mk_len _
      have hlo : ∀ s, LoP (deckL D) (deckL D).length s → TxOk (mk s) D := fun s h => h.ok hD
      generalize hxx : mk (deckL D) = x at *
      generalize hdd : deckL D = dl at *
      refine ws_seq (ws_asg (wx_pure (d := .str (mk [])) (ed_is ed_str (congrArg Dv.str (by decide +kernel))) ?_))
      walk_at "nrm"
      refine ws_cut (fun Γ' M' => ∃ l s c6 c7 c8 c9, M' = [(r, rl l)] ∧ Rnd l ∧ LoP dl dl.length s ∧ Γ' = [some (.sql (ns.map .int)), some (.adr r), some (iN si), some (eD D), some (.str x), some (.str (mk s)), c6, c7, c8, c9, c10, c11, none, none]) ?_ ?_
      · refine ws_forR (wa_pure (ea_cons (ed_is (ed_cb (ea_cons (ed_var rfl) ea_nil) (cd_lenS (by omega))) (show _ = iN dl.length by rw [hxl])) ea_nil) ⟨dl.length, rfl, by omega, by omega, fun i Γ' M' => ∃ l s c6 c7 c8 c9, M' = [(r, rl l)] ∧ Rnd l ∧ LoP dl i s ∧ Γ' = [some (.sql (ns.map .int)), some (.adr r), some (iN si), some (eD D), some (.str x), some (.str (mk s)), c6, c7, c8, c9, c10, c11, none, none], ⟨l1, [], c6, c7, c8, c9, rfl, h1, .zero, rfl⟩, ?_, fun Γ' M' h => h⟩)
        rintro i Γ' M' hi ⟨l2, s, c6, c7, c8, c9, rfl, h1, hs, rfl⟩
        refine ⟨_, tg_name, ?_⟩
        walk_at "nrm"
        have hix : i < x.length := by omega
        have hp := cut_prev (z := x) hix
        have hn := cut_next (z := x) hix
        rw [htl] at hp hn
        have hsl := hs.len
        refine ws_seq (ws_asg (wx_pure (d := .str (cutS x (some (max 0 ((i : Int) - 1))) (some (i : Int)) ++ cutS x (some ((i : Int) + 1)) (some ((i : Int) + 2)))) (ed_op (ed_slS (by omega) (ed_var rfl) (eo_some (ed_is (ed_cb (ea_cons ed_int (ea_cons (ed_op (ed_var rfl) ed_int od_sub) ea_nil)) cd_max) (show _ = Dv.int (max 0 ((i : Int) - 1)) by congr 1; rw [Int.max_def]; split <;> split <;> omega))) (eo_some (ed_var rfl))) (ed_slS (by omega) (ed_var rfl) (eo_some (ed_op (ed_var rfl) ed_int od_addI)) (eo_some (ed_op (ed_var rfl) ed_int od_addI))) (od_addS ?_)) ?_))
        · rw [len_tl, len_tl, hp, hn]
          have : ∀ o : Option Nat, o.toList.length ≤ 1 := fun o => by cases o <;> simp
          have h1 := this (pvAt dl i)
          have h2 := this dl[i + 1]?
          omega
        walk_at "nrm"
        have hbt : tl (cutS x (some (max 0 ((i : Int) - 1))) (some (i : Int)) ++ cutS x (some ((i : Int) + 1)) (some ((i : Int) + 2))) = (pvAt dl i).toList ++ dl[i + 1]?.toList := by rw [tl_append, hp, hn]
        have hbl : ((pvAt dl i).toList ++ dl[i + 1]?.toList).length ≤ 2 := by
          have : ∀ o : Option Nat, o.toList.length ≤ 1 := fun o => by cases o <;> simp
          have h1 := this (pvAt dl i)
          have h2 := this dl[i + 1]?
          rw [List.length_append]
          omega
        generalize hbb : cutS x (some (max 0 ((i : Int) - 1))) (some (i : Int)) ++ cutS x (some ((i : Int) + 1)) (some ((i : Int) + 2)) = bs at *
        generalize hpv : pvAt dl i = pv at *
        generalize hnx : dl[i + 1]? = nx at *
        refine ws_seq (ws_asg (wx_pure (d := .bl (freeB pv nx)) (ed_is (ed_or (a := pv.any isP || nx.any isP) (b := nx == some 45) (ed_is ((ed_op (ed_new (en_lcS (j := 12) isP (fun c => Dv.str (mk [c])) (ed_var rfl) (by rw [len_tl, hbt]; omega) (fun i' c hc Dl => et_is (et_cmp (ed_op (ed_var rfl) ed_str od_inS)) isP_tl) fun i' c hc _ Dl => ed_var rfl)) (ed_lst ea_nil (Nat.zero_le _)) (od_neP (n := 1) (c := (((tl bs).filter isP).map fun c => Dv.str (mk [c])) = []) ?_ ?_ (by decide) ⟨fun h => by rw [h], fun h => by injection h⟩))) (congrArg Dv.bl (by rw [hbt]; exact free_any pv nx))) fun _ => ed_is ((ed_op (ed_slS (by omega) (ed_var rfl) (eo_some (ed_op (ed_var rfl) ed_int od_addI)) (eo_some (ed_op (ed_var rfl) ed_int od_addI))) ed_str od_eqS)) (congrArg Dv.bl (free_arr nx _ hn))) rfl) ?_))
        · exact fun e he => by
            obtain ⟨c, hc, rfl⟩ := List.mem_map.mp he
            have key : ∀ x ∈ [58, 44, 59, 63, 62], PyData.strOk (mk [x]) = true := by decide +kernel
            exact key c (of_decide_eq_true (List.mem_filter.mp hc).2)
        · exact fun e he => (nomatch he)
        walk_at "nrm"
        have hi2 : i < dl.length := by omega
        have hci : dl[i]? = some dl[i] := List.getElem?_eq_getElem hi2
        have hci2 : x.cps.toList[i]? = some dl[i] := by rw [← hci, ← htl]
        generalize hcc : dl[i] = c at *
        refine ws_if (wt_pure (b := decide (c = 32 ∨ c = 10)) (et_is (et_cmp (ed_op (ed_op (ed_var rfl) (ed_var rfl) (od_ixS (by omega) hci2)) (ed_lst (ea_cons ed_str (ea_cons ed_str ea_nil)) (Nat.le_of_ble_eq_true rfl)) (od_inL (ys := [" ", "\n"])))) (gap_in c)) ⟨fun hb => ?_, fun hb => ?_⟩)
        · have hg := of_decide_eq_true hb
          refine ws_seq (ws_asg (wx_pure (d := .lst ((gapC (freeB pv nx)).map fun g => Dv.str (mk g))) (ed_if (b := freeB pv nx) (et_tru (ed_var rfl) rfl) (fun h => ed_is (ed_lst (ea_cons ed_str (ea_cons ed_str (ea_cons ed_str ea_nil))) (Nat.le_of_ble_eq_true rfl)) (by rw [h]; exact congrArg Dv.lst gap_t)) fun h => ed_is (ed_lst (ea_cons ed_str (ea_cons ed_str (ea_cons ed_str ea_nil))) (Nat.le_of_ble_eq_true rfl)) (by rw [h]; exact congrArg Dv.lst gap_f)) ?_))
          walk_at "nrm"
          have hgl : (gapC (freeB pv nx)).length = 3 := by unfold gapC; split <;> rfl
          refine ws_asg (wx_op (wx_pure (ed_var rfl) (wx_pick 0 (n := 3) (ds := (gapC (freeB pv nx)).map fun g => Dv.str (mk g)) (ed_var rfl) (ed_var rfl) ed_int (by rw [List.length_map, hgl]; rfl) rfl h1 (by rw [List.length_map, hgl]; decide) (by rw [List.length_map, hgl]; decide) fun jj e l3 hjj h1 => ?_)))
          rw [List.getElem?_map] at hjj
          cases hge : (gapC (freeB pv nx))[jj]? with
          | none => rw [hge] at hjj; cases hjj
          | some g =>
          rw [hge] at hjj
          cases hjj
          have hgm := List.mem_of_getElem? hge
          rw [← hpv, ← hnx] at hgm
          have hs2 := LoP.gap hs (hcc ▸ hci) hg hgm
          have hl2 := hs2.len
          rw [List.length_append] at hl2
          refine ⟨_, od_addS (by rw [mk_len, mk_len]; omega), ?_⟩
          rw [mk_app]
          exact ⟨l3, s ++ g, _, _, _, _, rfl, h1, hs2, rfl⟩
        · have hg : ¬ (c = 32 ∨ c = 10) := of_decide_eq_false hb
          have hs2 := LoP.ch hs (hcc ▸ hci) (fun e => hg (.inl e)) fun e => hg (.inr e)
          refine ws_asg (wx_pure (d := .str (mk (s ++ [c]))) (ed_is (ed_op (ed_var rfl) (ed_op (ed_var rfl) (ed_var rfl) (od_ixS (by omega) hci2)) (od_addS ?_)) ?_) ⟨l2, s ++ [c], _, _, _, _, rfl, h1, hs2, rfl⟩)
          · rw [mk_len]
            show _ + 1 ≤ _
            omega
          · rw [← mk_app]
            rfl
      rintro Γ' M' ⟨l2, s, c6, c7, c8, c9, rfl, h1, hs, rfl⟩
      have hy := hlo s hs
      generalize hyy : mk s = y at *
      refine ws_seq (ws_asg (wx_pure (d := .lst (D.cs.map nmD)) (ed_new (en_lcI (j := 13) (ds := D.cs.map eC) (ed_op (ed_var rfl) ed_int (od_ixT (j := 1) rfl)) (.inl rfl) (by rw [List.length_map]; omega) (by rw [List.length_map, List.length_map]) fun i e r' he hr Dl => ?_)) ?_))
      · rw [List.getElem?_map] at he hr
        cases h : D.cs[i]? with
        | none => rw [h] at he; cases he
        | some c =>
          rw [h] at he hr
          cases he
          cases hr
          exact ed_op (ed_var rfl) ed_int (od_ixT (j := 0) rfl)
      walk_at "nrm"
      refine ws_seq (ws_asg (wx_call0 (wa_pure (ea_cons (ed_var rfl) ea_nil) ⟨rfl, y, D, rfl, rfl, hy, fun q => ?_⟩)))
      walk_at "nrm"
      have hfx : ∀ z, TxOk z D → ∀ R : Dv → Mu → Prop, R (.str x) [] → S_format_deck a [.str z] [] R := fun z hz R hR => ⟨z, D, rfl, rfl, hz, by rw [hdd, hxx]; exact hR⟩
      refine ws_seq (ws_if (wt_not (wt_tru (wx_callT (wa_pure (ea_cons (ed_lst (ea_cons (ed_callD (n := 1) (m := 0) (k := 1) (d := .str x) rfl (ea_cons (ed_var rfl) ea_nil) rfl (hfx x hx _ ⟨rfl, rfl⟩)) (ea_cons (ed_callD (n := 1) (m := 0) (k := 1) (d := .str x) rfl (ea_cons (ed_var rfl) ea_nil) rfl (hfx y hy _ ⟨rfl, rfl⟩)) (ea_cons (ed_var rfl) ea_nil))) (Nat.le_of_ble_eq_true rfl)) (ea_cons (ed_lst (ea_cons (ed_var rfl) (ea_cons (ed_var rfl) (ea_cons (ed_var rfl) ea_nil))) (Nat.le_of_ble_eq_true rfl)) ea_nil)) ⟨rfl, [], _, rfl, _, _, rfl, .lst rfl (Nat.le_of_ble_eq_true rfl) (fun i x' d hx' hd => by
        match i, hx', hd with
        | 0, hx', hd => cases hx'; cases hd; exact .str _
        | 1, hx', hd => cases hx'; cases hd; exact .str _
        | 2, hx', hd => cases hx'; cases hd; exact .adr (j := 0) rfl rfl (by rw [List.length_map]; omega) (eqd_strs D.cs)), fun N' B' e1 e2 => ?_⟩)))))
      obtain ⟨rfl, rfl⟩ := tail_all e1 e2
      refine ⟨true, rfl, fun h => (nomatch h), fun _ => ws_next ?_⟩
      refine ws_seq (ws_app (ed_var rfl) ⟨_, List.mem_cons_self ..⟩ (wx_pure ed_int ⟨0, _, rfl, by rw [List.length_map]; omega, ?_⟩))
      refine ws_drp ?_
      refine ws_if (wt_or (wt_not (wt_tru (wx_callT (wa_pure (ea_cons (ed_callD (n := 1) (m := 0) (k := 1) (d := iN ((D.cs.map fun c => c.ac.length).sum)) rfl (ea_cons (ed_var rfl) ea_nil) rfl ⟨y, D, rfl, rfl, hy, rfl, rfl⟩) (ea_cons (ed_is (ed_cb (ea_cons (ed_new (en_lcI (j := 13) (ds := D.cs.map eC) (rs := (D.cs.map fun c => ((c.ac.length : Nat) : Int)).map Dv.int) (ed_op (ed_var rfl) ed_int (od_ixT (j := 1) rfl)) (.inl rfl) (by rw [List.length_map]; omega) (by rw [List.length_map, List.length_map, List.length_map]) fun i e r he hr Dl => ?_)) ea_nil) cd_sum) (congrArg Dv.int (sum_cast (fun c : Cd => c.ac.length) D.cs))) ea_nil)) ⟨rfl, [], _, rfl, _, _, rfl, .int _, fun N' B' e1 e2 => ?_⟩)))))
      · rw [List.getElem?_map] at he
        rw [List.map_map, List.getElem?_map] at hr
        cases h : D.cs[i]? with
        | none => rw [h] at he; cases he
        | some c =>
          rw [h] at he hr
          cases he
          cases hr
          exact ed_is (ed_cb (ea_cons (ed_op (ed_var rfl) ed_int (od_ixT (j := 1) rfl)) ea_nil) cd_lenL) (by rw [List.length_map]; rfl)
      obtain ⟨rfl, rfl⟩ := tail_all e1 e2
      refine ⟨true, rfl, fun _ => ?_, fun h => (nomatch h)⟩
      refine wt_cmp (wx_op (wx_frz (wx_call0 (wa_pure (ea_cons (ed_var rfl) ea_nil) ⟨rfl, x, D, rfl, rfl, hx, fun q2 => ⟨q2, _, _, rfl, rfl, (fun z => nomatch z), wx_pure (ed_var rfl) ⟨_, od_neY (n := 1) ?_ (by decide), _, rfl, fun h => (nomatch h), fun h => ws_next ?_⟩⟩⟩))))
      · exact hnp.pl
      · exact ⟨_, rfl, h1, _, _, _, _, _, _, _, _, _, _, rfl⟩
    · rintro Γ' M' ⟨l, rfl, -, -⟩
      exact ⟨l, rfl⟩
  rintro Γ' M' ⟨l, rfl⟩
  exact ws_ret (wx_pure (ed_c fun _ => .bl true) ⟨[(r, rl l)], [], rfl, rfl, k _⟩)
end
end Dk
namespace Dk
open PySem L2 Dw TL
def hads (K : PySem.W.Frag) : Ads := ⟨He.ga K "Card", He.ga K "Deck", He.ga K "Token", He.ga K "Parser", 0⟩
theorem htxt {w : World} {K : PySem.W.Frag} {h : Heap} {mg : Str → Option Value} (X : K.In h) (G : h.Ns mainGlobals mg) (cx : He.SaysX hfa hfn [] [] hex w h K) : Txt K mg (hads K) := by
  have c := cx.t.d
  obtain ⟨e0, m0⟩ := He.ba (show (tupF "KEYWORDS" ["wrap", "add", "copy", "swap", "emit"] K && (tupF "REGISTERS" ["p", "q", "r", "s"] K && (tupF "SIGNS" ["->", ":", ",", ";", "?"] K))) = true from cx.more)
  obtain ⟨e1, m1⟩ := He.ba (show (tupF "REGISTERS" ["p", "q", "r", "s"] K && (tupF "SIGNS" ["->", ":", ",", ";", "?"] K)) = true from m0)
  have e2 : tupF "SIGNS" ["->", ":", ",", ";", "?"] K = true := m1
  have t0 : DefT K mg "_law_below" "_law_below" (top 50) ["_law_d", "_law_limit"] := defT_of (He.glo_ok X G (c.fact 0 (f := .glo "_law_below") rfl)) (c.def_ 0 rfl) (fun _ _ _ _ _ _ us hl => match us, hl with | [_, _], _ => rfl)
  have t1 : DefT K mg "_law_random" "_law_random" (top 49) ["_law_script", "_law_salt"] := defT_of (He.glo_ok X G (c.fact 1 (f := .glo "_law_random") rfl)) (c.def_ 1 rfl) (fun _ _ _ _ _ _ us hl => match us, hl with | [_, _], _ => rfl)
  have t2 : DefT K mg "_law_shuffled" "_law_shuffled" (top 51) ["_law_d", "_law_items"] := defT_of (He.glo_ok X G (c.fact 2 (f := .glo "_law_shuffled") rfl)) (c.def_ 2 rfl) (fun _ _ _ _ _ _ us hl => match us, hl with | [_, _], _ => rfl)
  have t3 : DefT K mg "_law_action" "_law_action" (top 52) ["_law_d", "_law_wrap"] := defT_of (He.glo_ok X G (c.fact 3 (f := .glo "_law_action") rfl)) (c.def_ 3 rfl) (fun _ _ _ _ _ _ us hl => match us, hl with | [_, _], _ => rfl)
  have t4 : DefT K mg "_law_put" "_law_put" (top 53) ["_law_d", "_law_many"] := defT_of (He.glo_ok X G (c.fact 4 (f := .glo "_law_put") rfl)) (c.def_ 4 rfl) (fun _ _ _ _ _ _ us hl => match us, hl with | [_, _], _ => rfl)
  have t5 : DefT K mg "_law_deck" "_law_deck" (top 54) ["_law_d", "_law_most"] := defT_of (He.glo_ok X G (c.fact 5 (f := .glo "_law_deck") rfl)) (c.def_ 5 rfl) (fun _ _ _ _ _ _ us hl => match us, hl with | [_, _], _ => rfl)
  have t6 : DefT K mg "_law_card_text" "_law_card_text" (top 55) ["_law_card"] := defT_of (He.glo_ok X G (c.fact 6 (f := .glo "_law_card_text") rfl)) (c.def_ 6 rfl) (fun _ _ _ _ _ _ us hl => match us, hl with | [_], _ => rfl)
  have t7 : DefT K mg "_law_text" "_law_text" (top 56) ["_law_deck_here"] := defT_of (He.glo_ok X G (c.fact 7 (f := .glo "_law_text") rfl)) (c.def_ 7 rfl) (fun _ _ _ _ _ _ us hl => match us, hl with | [_], _ => rfl)
  have t8 : DefT K mg "skip" "skip" (top 27) ["row", "column", "characters"] := defT_of (He.glo_ok X G (c.fact 8 (f := .glo "skip") rfl)) (c.def_ 8 rfl) (fun _ _ _ _ _ _ us hl => match us, hl with | [_, _, _], _ => rfl)
  have t9 : DefT K mg "find_end" "find_end" (top 26) ["row", "column"] := defT_of (He.glo_ok X G (c.fact 9 (f := .glo "find_end") rfl)) (c.def_ 9 rfl) (fun _ _ _ _ _ _ us hl => match us, hl with | [_, _], _ => rfl)
  have t10 : DefT K mg "is_word" "is_word" (top 29) ["text"] := defT_of (He.glo_ok X G (c.fact 10 (f := .glo "is_word") rfl)) (c.def_ 10 rfl) (fun _ _ _ _ _ _ us hl => match us, hl with | [_], _ => rfl)
  have t11 : DefT K mg "is_number" "is_number" (top 30) ["text"] := defT_of (He.glo_ok X G (c.fact 11 (f := .glo "is_number") rfl)) (c.def_ 11 rfl) (fun _ _ _ _ _ _ us hl => match us, hl with | [_], _ => rfl)
  have t12 : DefT K mg "find_kind" "find_kind" (top 28) ["text"] := defT_of (He.glo_ok X G (c.fact 12 (f := .glo "find_kind") rfl)) (c.def_ 12 rfl) (fun _ _ _ _ _ _ us hl => match us, hl with | [_], _ => rfl)
  have t13 : ClsT K mg "Token" (hads K).token "Token.__init__" (inClass (top 23) 0) ["self", "kind", "text", "line", "column"] ["kind", "text", "line", "column"] := clsT_of (He.cls_ok (c.fact 17 (f := .cls "Token") rfl)) (He.glo_ok X G (c.fact 18 (f := .glo "Token") rfl)) (na_cons (He.noat_ok (c.fact 16 (f := .noat "Token" "kind") rfl)) (na_cons (He.noat_ok (c.fact 15 (f := .noat "Token" "text") rfl)) (na_cons (He.noat_ok (c.fact 14 (f := .noat "Token" "line") rfl)) (na_cons (He.noat_ok (c.fact 13 (f := .noat "Token" "column") rfl)) na_nil)))) (He.mkr_ok (c.fact 19 (f := .mkr "Token") rfl)) (c.def_ 13 rfl) (fun _ _ _ _ _ _ us hl => match us, hl with | [_, _, _, _, _], _ => rfl)
  have t14 : DefT K mg "read_row" "read_row" (top 25) ["row", "line"] := defT_of (He.glo_ok X G (c.fact 20 (f := .glo "read_row") rfl)) (c.def_ 14 rfl) (fun _ _ _ _ _ _ us hl => match us, hl with | [_, _], _ => rfl)
  have t15 : DefT K mg "read_tokens" "read_tokens" (top 24) ["text"] := defT_of (He.glo_ok X G (c.fact 21 (f := .glo "read_tokens") rfl)) (c.def_ 15 rfl) (fun _ _ _ _ _ _ us hl => match us, hl with | [_], _ => rfl)
  have t16 : ClsT K mg "Parser" (hads K).parser "Parser.__init__" (inClass (top 38) 0) ["self", "tokens"] ["tokens", "at", "fault", "wrap"] := clsT_of (He.cls_ok (c.fact 26 (f := .cls "Parser") rfl)) (He.glo_ok X G (c.fact 27 (f := .glo "Parser") rfl)) (na_cons (He.noat_ok (c.fact 25 (f := .noat "Parser" "tokens") rfl)) (na_cons (He.noat_ok (c.fact 24 (f := .noat "Parser" "at") rfl)) (na_cons (He.noat_ok (c.fact 23 (f := .noat "Parser" "fault") rfl)) (na_cons (He.noat_ok (c.fact 22 (f := .noat "Parser" "wrap") rfl)) na_nil)))) (He.mkr_ok (c.fact 28 (f := .mkr "Parser") rfl)) (c.def_ 16 rfl) (fun _ _ _ _ _ _ us hl => match us, hl with | [_, _], _ => rfl)
  have t17 : MthT K (hads K).parser "sees" "Parser.sees" (inClass (top 38) 1) ["self", "kind"] := mthT_of (He.meth_ok (c.fact 29 (f := .meth "Parser" "sees") rfl)) (c.def_ 17 rfl) (fun _ _ _ _ _ _ us hl => match us, hl with | [_, _], _ => rfl)
  have t18 : MthS K (hads K).parser "take" "Parser.take" (inClass (top 38) 2) ["self"] "kinds" := mthS_of (He.meth_ok (c.fact 30 (f := .meth "Parser" "take") rfl)) (c.def_ 18 rfl) (fun _ _ _ _ _ _ us rest hl => match us, hl, rest with | [_], _, [] => rfl | [_], _, _ :: _ => rfl)
  have t19 : MthT K (hads K).parser "read_number" "Parser.read_number" (inClass (top 38) 12) ["self", "reason", "least", "most"] := mthT_of (He.meth_ok (c.fact 31 (f := .meth "Parser" "read_number") rfl)) (c.def_ 19 rfl) (fun _ _ _ _ _ _ us hl => match us, hl with | [_, _, _, _], _ => rfl)
  have t20 : MthT K (hads K).parser "read_letter" "Parser.read_letter" (inClass (top 38) 9) ["self"] := mthT_of (He.meth_ok (c.fact 32 (f := .meth "Parser" "read_letter") rfl)) (c.def_ 20 rfl) (fun _ _ _ _ _ _ us hl => match us, hl with | [_], _ => rfl)
  have t21 : MthT K (hads K).parser "read_value" "Parser.read_value" (inClass (top 38) 10) ["self"] := mthT_of (He.meth_ok (c.fact 33 (f := .meth "Parser" "read_value") rfl)) (c.def_ 21 rfl) (fun _ _ _ _ _ _ us hl => match us, hl with | [_], _ => rfl)
  have t22 : MthT K (hads K).parser "read_depth" "Parser.read_depth" (inClass (top 38) 11) ["self"] := mthT_of (He.meth_ok (c.fact 34 (f := .meth "Parser" "read_depth") rfl)) (c.def_ 22 rfl) (fun _ _ _ _ _ _ us hl => match us, hl with | [_], _ => rfl)
  have t23 : MthT K (hads K).parser "read_action" "Parser.read_action" (inClass (top 38) 7) ["self"] := mthT_of (He.meth_ok (c.fact 35 (f := .meth "Parser" "read_action") rfl)) (c.def_ 23 rfl) (fun _ _ _ _ _ _ us hl => match us, hl with | [_], _ => rfl)
  have t24 : MthT K (hads K).parser "read_put" "Parser.read_put" (inClass (top 38) 8) ["self"] := mthT_of (He.meth_ok (c.fact 36 (f := .meth "Parser" "read_put") rfl)) (c.def_ 24 rfl) (fun _ _ _ _ _ _ us hl => match us, hl with | [_], _ => rfl)
  have t25 : MthT K (hads K).parser "read_actions" "Parser.read_actions" (inClass (top 38) 6) ["self"] := mthT_of (He.meth_ok (c.fact 37 (f := .meth "Parser" "read_actions") rfl)) (c.def_ 25 rfl) (fun _ _ _ _ _ _ us hl => match us, hl with | [_], _ => rfl)
  have t26 : ClsT K mg "Card" (hads K).card "Card.__init__" (inClass (top 10) 0) ["self", "name", "actions", "put"] ["name", "actions", "put"] := clsT_of (He.cls_ok (c.fact 41 (f := .cls "Card") rfl)) (He.glo_ok X G (c.fact 42 (f := .glo "Card") rfl)) (na_cons (He.noat_ok (c.fact 40 (f := .noat "Card" "name") rfl)) (na_cons (He.noat_ok (c.fact 39 (f := .noat "Card" "actions") rfl)) (na_cons (He.noat_ok (c.fact 38 (f := .noat "Card" "put") rfl)) na_nil))) (He.mkr_ok (c.fact 43 (f := .mkr "Card") rfl)) (c.def_ 26 rfl) (fun _ _ _ _ _ _ us hl => match us, hl with | [_, _, _, _], _ => rfl)
  have t27 : MthT K (hads K).parser "read_card" "Parser.read_card" (inClass (top 38) 5) ["self", "earlier"] := mthT_of (He.meth_ok (c.fact 44 (f := .meth "Parser" "read_card") rfl)) (c.def_ 27 rfl) (fun _ _ _ _ _ _ us hl => match us, hl with | [_, _], _ => rfl)
  have t28 : ClsT K mg "Deck" (hads K).deck "Deck.__init__" (inClass (top 11) 0) ["self", "wrap", "cards"] ["wrap", "cards", "names", "by_name"] := clsT_of (He.cls_ok (c.fact 49 (f := .cls "Deck") rfl)) (He.glo_ok X G (c.fact 50 (f := .glo "Deck") rfl)) (na_cons (He.noat_ok (c.fact 48 (f := .noat "Deck" "wrap") rfl)) (na_cons (He.noat_ok (c.fact 47 (f := .noat "Deck" "cards") rfl)) (na_cons (He.noat_ok (c.fact 46 (f := .noat "Deck" "names") rfl)) (na_cons (He.noat_ok (c.fact 45 (f := .noat "Deck" "by_name") rfl)) na_nil)))) (He.mkr_ok (c.fact 51 (f := .mkr "Deck") rfl)) (c.def_ 28 rfl) (fun _ _ _ _ _ _ us hl => match us, hl with | [_, _, _], _ => rfl)
  have t29 : MthT K (hads K).parser "read_deck" "Parser.read_deck" (inClass (top 38) 4) ["self"] := mthT_of (He.meth_ok (c.fact 52 (f := .meth "Parser" "read_deck") rfl)) (c.def_ 29 rfl) (fun _ _ _ _ _ _ us hl => match us, hl with | [_], _ => rfl)
  have t30 : DefT K mg "parse_deck" "parse_deck" (top 37) ["text"] := defT_of (He.glo_ok X G (c.fact 53 (f := .glo "parse_deck") rfl)) (c.def_ 30 rfl) (fun _ _ _ _ _ _ us hl => match us, hl with | [_], _ => rfl)
  have t31 : DefT K mg "_law_equal" "_law_equal" (top 57) ["_law_actual", "_law_expected"] := defT_of (He.glo_ok X G (c.fact 54 (f := .glo "_law_equal") rfl)) (c.def_ 31 rfl) (fun _ _ _ _ _ _ us hl => match us, hl with | [_, _], _ => rfl)
  have t32 : DefT K mg "measure" "measure" (top 47) ["deck"] := defT_of (He.glo_ok X G (c.fact 55 (f := .glo "measure") rfl)) (c.def_ 32 rfl) (fun _ _ _ _ _ _ us hl => match us, hl with | [_], _ => rfl)
  have t33 : DefT K mg "card_names" "card_names" (top 41) ["deck"] := defT_of (He.glo_ok X G (c.fact 56 (f := .glo "card_names") rfl)) (c.def_ 33 rfl) (fun _ _ _ _ _ _ us hl => match us, hl with | [_], _ => rfl)
  have t34 : DefT K mg "write_put" "write_put" (top 45) ["put"] := defT_of (He.glo_ok X G (c.fact 57 (f := .glo "write_put") rfl)) (c.def_ 34 rfl) (fun _ _ _ _ _ _ us hl => match us, hl with | [_], _ => rfl)
  have t35 : DefT K mg "write_action" "write_action" (top 44) ["action"] := defT_of (He.glo_ok X G (c.fact 58 (f := .glo "write_action") rfl)) (c.def_ 35 rfl) (fun _ _ _ _ _ _ us hl => match us, hl with | [_], _ => rfl)
  have t36 : DefT K mg "write_card" "write_card" (top 43) ["card"] := defT_of (He.glo_ok X G (c.fact 59 (f := .glo "write_card") rfl)) (c.def_ 36 rfl) (fun _ _ _ _ _ _ us hl => match us, hl with | [_], _ => rfl)
  have t37 : DefT K mg "write_deck" "write_deck" (top 42) ["deck"] := defT_of (He.glo_ok X G (c.fact 60 (f := .glo "write_deck") rfl)) (c.def_ 37 rfl) (fun _ _ _ _ _ _ us hl => match us, hl with | [_], _ => rfl)
  have t38 : DefT K mg "format_deck" "format_deck" (top 40) ["deck"] := defT_of (He.glo_ok X G (c.fact 61 (f := .glo "format_deck") rfl)) (c.def_ 38 rfl) (fun _ _ _ _ _ _ us hl => match us, hl with | [_], _ => rfl)
  have t39 : DefT K mg "law" "law" (top 58) ["_law_script"] := defT_of (He.glo_ok X G (c.fact 62 (f := .glo "law") rfl)) (c.def_ 39 rfl) (fun _ _ _ _ _ _ us hl => match us, hl with | [_], _ => rfl)
  have t40 : CstT mg "DIGITS" (.str "0123456789") := str_of (He.str_ok X G (c.fact 63 (f := .str "DIGITS" "0123456789") rfl))
  have t41 : CstT mg "LETTERS" (.str "abcdefghijklmnopqrstuvwxyz") := str_of (He.str_ok X G (c.fact 64 (f := .str "LETTERS" "abcdefghijklmnopqrstuvwxyz") rfl))
  have t42 : CstT mg "LONGEST_WORD" (.int 8) := int_of (He.int_ok X G (c.fact 65 (f := .int "LONGEST_WORD" 8) rfl))
  have t43 : CstT mg "LONGEST_NUMBER" (.int 3) := int_of (He.int_ok X G (c.fact 66 (f := .int "LONGEST_NUMBER" 3) rfl))
  have t44 : TupT K mg "KEYWORDS" [.str "wrap", .str "add", .str "copy", .str "swap", .str "emit"] := tup_of (zs := ["wrap", "add", "copy", "swap", "emit"]) X G e0
  have t45 : TupT K mg "REGISTERS" [.str "p", .str "q", .str "r", .str "s"] := tup_of (zs := ["p", "q", "r", "s"]) X G e1
  have t46 : TupT K mg "SIGNS" [.str "->", .str ":", .str ",", .str ";", .str "?"] := tup_of (zs := ["->", ":", ",", ";", "?"]) X G e2
  have t47 : CstT mg "MOST_DEPTH" (.int 9) := int_of (He.int_ok X G (c.fact 67 (f := .int "MOST_DEPTH" 9) rfl))
  have t48 : CstT mg "ADD" (.int 0) := int_of (He.int_ok X G (c.fact 68 (f := .int "ADD" 0) rfl))
  have t49 : CstT mg "COPY" (.int 1) := int_of (He.int_ok X G (c.fact 69 (f := .int "COPY" 1) rfl))
  have t50 : CstT mg "EMIT_LETTER" (.int 3) := int_of (He.int_ok X G (c.fact 70 (f := .int "EMIT_LETTER" 3) rfl))
  have t51 : CstT mg "EMIT_NUMBER" (.int 4) := int_of (He.int_ok X G (c.fact 71 (f := .int "EMIT_NUMBER" 4) rfl))
  have t52 : CstT mg "SWAP" (.int 2) := int_of (He.int_ok X G (c.fact 72 (f := .int "SWAP" 2) rfl))
  have t53 : CstT mg "PUT_CHOICE" (.int 2) := int_of (He.int_ok X G (c.fact 73 (f := .int "PUT_CHOICE" 2) rfl))
  have t54 : CstT mg "PUT_LETTER" (.int 1) := int_of (He.int_ok X G (c.fact 74 (f := .int "PUT_LETTER" 1) rfl))
  have t55 : CstT mg "PUT_NUMBER" (.int 0) := int_of (He.int_ok X G (c.fact 75 (f := .int "PUT_NUMBER" 0) rfl))
  have t56 : CstT mg "MOST_ACTIONS" (.int 6) := int_of (He.int_ok X G (c.fact 76 (f := .int "MOST_ACTIONS" 6) rfl))
  have t57 : CstT mg "MOST_CARDS" (.int 8) := int_of (He.int_ok X G (c.fact 77 (f := .int "MOST_CARDS" 8) rfl))
  have t58 : CstT mg "LEAST_WRAP" (.int 2) := int_of (He.int_ok X G (c.fact 78 (f := .int "LEAST_WRAP" 2) rfl))
  have t59 : CstT mg "MOST_WRAP" (.int 16) := int_of (He.int_ok X G (c.fact 79 (f := .int "MOST_WRAP" 16) rfl))
  have t60 : mg "len" = none := He.free_ok X G (c.fact 80 (f := .free "len") rfl)
  have t61 : mg "abs" = none := He.free_ok X G (c.fact 81 (f := .free "abs") rfl)
  have t62 : mg "list" = none := He.free_ok X G (c.fact 82 (f := .free "list") rfl)
  have t63 : mg "min" = none := He.free_ok X G (c.fact 83 (f := .free "min") rfl)
  have t64 : mg "range" = none := He.free_ok X G (c.fact 84 (f := .free "range") rfl)
  have t65 : mg "int" = none := He.free_ok X G (c.fact 85 (f := .free "int") rfl)
  have t66 : mg "str" = none := He.free_ok X G (c.fact 86 (f := .free "str") rfl)
  have t67 : mg "enumerate" = none := He.free_ok X G (c.fact 87 (f := .free "enumerate") rfl)
  have t68 : mg "tuple" = none := He.free_ok X G (c.fact 88 (f := .free "tuple") rfl)
  have t69 : mg "isinstance" = none := He.free_ok X G (c.fact 89 (f := .free "isinstance") rfl)
  have t70 : mg "all" = none := He.free_ok X G (c.fact 90 (f := .free "all") rfl)
  have t71 : mg "bool" = none := He.free_ok X G (c.fact 91 (f := .free "bool") rfl)
  have t72 : mg "sum" = none := He.free_ok X G (c.fact 92 (f := .free "sum") rfl)
  have t73 : mg "max" = none := He.free_ok X G (c.fact 93 (f := .free "max") rfl)
  exact ⟨t0, t1, t2, t3, t4, t5, t6, t7, t8, t9, t10, t11, t12, t13, t14, t15, t16, t17, t18, t19, t20, t21, t22, t23, t24, t25, t26, t27, t28, t29, t30, t31, t32, t33, t34, t35, t36, t37, t38, t39, t40, t41, t42, t43, t44, t45, t46, t47, t48, t49, t50, t51, t52, t53, t54, t55, t56, t57, t58, t59, t60, t61, t62, t63, t64, t65, t66, t67, t68, t69, t70, t71, t72, t73⟩
end Dk
open PySem PySem.W PySem.Calls PyProof.Rows in
theorem PySem.Challenge.cw_deckwork_k03_canonical_decks_holds : PySem.Challenge.rw_deckwork_k03_canonical_decks.Holds := by
  w_on; o_law
  refine HandSHeadRun.head_any (r := Dk.hrow) (q := view Dk.hrow.prog [58]) (H := Dk.hk) (ob := Dk.hob) (M := 60000) (loose := Dk.hlo) (d := HandSHeadRun.topDef Dk.hrow.prog 58) (kwd := []) Dk.hob_eq
    (by kernel_rfl) (fun s => by kernel_rfl) Dk.hrun (by kernel_rfl) (by kernel_rfl) (by kernel_rfl) (by rfl) (by first | assumption | decide +kernel) (by decide +kernel) ⟨rfl, rfl, rfl, rfl, rfl, by decide +kernel⟩ ?hw ?hc
  case hw => w_witness2
  case hc =>
    refine L2.walk_ofE (l := PySem.Challenge.rw_deckwork_k03_canonical_decks) (n := 63) (k := 10) (x := "_law_script") (CX := L2.CX0) rfl (by decide) (by kernel_rfl) ⟨rfl, by decide, by decide⟩ ?F (fun _ _ _ _ z => z)
    intro w mg fa h Y G hmg0
    obtain ⟨K, KX, cx⟩ := Y
    have hmg : mg ("law" : PySem.Str) = some (.ref fa) := by
      have e : (HandSHeadRun.topDef Dk.hrow.prog 58).name = ("law" : PySem.Str) := by kernel_rfl
      rw [← e]
      exact hmg0
    have T := Dk.htxt KX G cx
    obtain ⟨f, fd, Fn, hm, hb⟩ := T.d_law.ex
    have e : f = fa := by rw [hm] at hmg; cases hmg; rfl
    subst e
    obtain ⟨F1, kV, doc, pm, an, cdv, ct, efd⟩ := Dw.fun_of2 Fn
    subst efd
    exact ⟨K, _, _, KX, fun s u => .of_eq rfl, fun H a ns hl _ hS => Dw.law_sp hl hS, fun base _ _ => Dk.ok_law T _ _ Fn⟩

