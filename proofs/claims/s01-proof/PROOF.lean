import PyProof.Rows.All
import Wide.All
import OpenK.AllK
import Wide.FinOn
import PyProof.EqAt
import PyProof.EqKinds
import PyProof.TupleCall
import KE.BitLaws
import Open.SpecLaws
import KE.OsHead
import KE.OsGo
import KE.KDictSum
import KE.KItemsList
import PyProof.Rows.Lemmas
import KE.KEqDeep
import KE.KEqSeq
import PySem.Challenge.RW_switchrules_s01_answers
import PyVbcnan
section
open PySem PySem.Spec PyProof.Rows
noncomputable abbrev ab:=@List.length_map
noncomputable abbrev ae:=@List.mem_cons
noncomputable abbrev ak:=@List.getElem?_eq_some_iff
noncomputable abbrev ax:=@Option.some.inj
noncomputable abbrev ay:=@Nat.le_refl
noncomputable abbrev aC:=@List.getElem?_eq_getElem
noncomputable abbrev aD:=@Int.toNat_natCast
noncomputable abbrev aE:=@Bool.and_eq_true
noncomputable abbrev aG:=@List.length_append
noncomputable abbrev aH:=@Heap.get?_push_of_some
noncomputable abbrev aI:=@Heap.lt_size
noncomputable abbrev aJ:=@List.mem_of_getElem?
noncomputable abbrev aL:=@List.size_toArray
noncomputable abbrev aO:=@List.mem_singleton
noncomputable abbrev aQ:=@List.mem_append
noncomputable abbrev aR:=@List.pairwise_cons
noncomputable abbrev aT:=@Nat.zero_le
noncomputable abbrev aV:=@Bool.false_ne_true
noncomputable abbrev aW:=@List.map_cons
noncomputable abbrev aZ:=@Nat.lt_or_ge
noncomputable abbrev a8:=@List.take_of_length_le
noncomputable abbrev a9:=@List.getElem?_map
noncomputable abbrev ba:=@List.mem_cons_of_mem
noncomputable abbrev bc:=@Heap.get?_push_size
noncomputable abbrev bh:=@Nat.lt_of_lt_of_le
noncomputable abbrev bq:=@List.drop_eq_getElem_cons
noncomputable abbrev bt:=@List.map_append
noncomputable abbrev bx:=@List.mem_map
noncomputable abbrev bB:=@Nat.le_trans
noncomputable abbrev bC:=@PySem.mem_of_lookup
noncomputable abbrev bD:=@Nat.ne_of_lt
noncomputable abbrev bL:=@List.length_take
noncomputable abbrev bM:=@List.length_cons
noncomputable abbrev bO:=@Nat.two_pow_pos
noncomputable abbrev bU:=@Bool.eq_iff_iff
noncomputable abbrev bX:=@PySem.W.mg_none_of
noncomputable abbrev bY:=@List.mem_cons_self
noncomputable abbrev cb:=@Nat.testBit_two_pow_mul_add
noncomputable abbrev cf:=@List.mem_append_right
noncomputable abbrev cg:=@List.length_singleton
noncomputable abbrev cH:=@List.mem_iff_getElem?
noncomputable abbrev cM:=@Nat.add_zero
noncomputable abbrev cQ:=@List.take_succ
noncomputable abbrev cR:=@Heap.size_push
noncomputable abbrev cS:=@List.append_nil
noncomputable abbrev c7:=@List.drop_eq_nil_of_le
noncomputable abbrev da:=@List.flatMap_append
noncomputable abbrev de:=@Int.toNat_of_nonneg
noncomputable abbrev dh:=@List.flatMap_cons
noncomputable abbrev di:=@List.append_assoc
noncomputable abbrev dv:=@Nat.xor_zero
noncomputable abbrev dw:=@Nat.xor_self
noncomputable abbrev dZ:=@Nat.lt_irrefl
noncomputable abbrev d9:=@Nat.testBit_and
noncomputable abbrev ee:=@List.nodup_cons
noncomputable abbrev ef:=@List.foldl_cons
noncomputable abbrev eR:=@List.getElem?_eq_none
noncomputable abbrev ff:=@List.nodup_nil
noncomputable abbrev fq:=@List.reverse_cons
noncomputable abbrev fz:=@List.mem_filter
noncomputable abbrev fL:=@Nat.lt_succ_self
noncomputable abbrev gd:=@List.take_append_drop
noncomputable abbrev gF:=@Nat.testBit_xor
noncomputable abbrev gG:=@Nat.ne_of_gt
noncomputable abbrev gH:=@Nat.eq_of_testBit_eq
noncomputable abbrev iq:=@Nat.le_add_right
noncomputable abbrev iu:=@Nat.and_two_pow_sub_one_eq_mod
noncomputable abbrev iw:=@List.lookup_cons
noncomputable abbrev iy:=@List.length_eq_zero_iff
noncomputable abbrev iz:=@List.length_drop
noncomputable abbrev jb:=@Nat.xor_lt_two_pow
noncomputable abbrev jc:=@Nat.and_lt_two_pow
noncomputable abbrev jd:=@List.prefix_append
noncomputable abbrev je:=@Heap.get?_update_other
noncomputable abbrev jk:=@Bool.or_eq_true
noncomputable abbrev jJ:=@List.any_eq_false
noncomputable abbrev j7:=@Nat.pow_le_pow_right
noncomputable abbrev kO:=@Nat.zero_add
noncomputable abbrev kP:=@Nat.pow_succ
noncomputable abbrev kQ:=@List.mem_flatMap
noncomputable abbrev kR:=@List.append_inj'
noncomputable abbrev lS:=@Bool.true_and
noncomputable abbrev lW:=@List.find?_cons
noncomputable abbrev mL:=@Bool.false_eq_true
noncomputable abbrev oe:=@Option.map_eq_some_iff
noncomputable abbrev og:=@Nat.mod_eq_zero_of_dvd
noncomputable abbrev oh:=@Nat.dvd_of_mod_eq_zero
noncomputable abbrev oj:=@List.drop_drop
noncomputable abbrev pN:=@List.filter_cons
noncomputable abbrev pO:=@List.any_eq_true
noncomputable abbrev pP:=@Bool.not_eq_true
noncomputable abbrev pV:=@List.drop_eq_nil_iff
noncomputable abbrev pW:=@Bool.and_eq_true_iff
noncomputable abbrev rq:=@Nat.add_lt_add_left
noncomputable abbrev ug:=@Nat.mod_two_eq_zero_or_one
noncomputable abbrev vE:=@Nat.lt_trichotomy
noncomputable abbrev vF:=@Nat.le_of_succ_le
noncomputable abbrev xk:=@PySem.W.mg_of
noncomputable abbrev xl:=@Option.isSome_iff_exists
noncomputable abbrev xm:=@List.map_take
noncomputable abbrev xn:=@List.getElem?_take_of_lt
noncomputable abbrev xo:=@List.any_cons
end
open PySem.W (Frag)
set_option Elab.async false
set_option linter.all false
set_option maxRecDepth 1000000
set_option maxHeartbeats 0
namespace L2
open PySem
def inClass (s:Stmt) (j:Nat):Stmt:=match s with
 |.ClassDef _ _ _ body _ _ _ _ _ _ _=>body.getD j (.Pass ⟨0,0,0,0⟩)
 |_=>.Pass ⟨0,0,0,0⟩
def iQ (s:Stmt):Arguments:=match s with
 |.FunctionDef _ a _ _ _ _ _ _ _ _=>a
 |_=>{posonlyargs:=[],args:=[],vararg:=none,kwonlyargs:=[],kw_defaults:=[],kwarg:=none,defaults:=[]}
def gC (s:Stmt):List Stmt:=match s with
 |.FunctionDef _ _ b _ _ _ _ _ _ _=>b
 |_=>[]
def aB (s:Stmt):Scope:=match s with
 |.FunctionDef _ _ _ _ _ _ sc _ _ _=>sc
 |_=>{kind:=.function,names:=[],isGenerator:=false,isCoroutine:=false}
end L2
namespace Sw
open PySem PySem.W L2
noncomputable def um (tb:String->Option Builtin) (p:Program) (w:World) (m:Nat) (ann:Option Value):Nat->SharedT->Thread->Option SharedT
 |0,_,_=>none
 |n+1,s,t=>match through t with
  |true=>some s
  |false=>match stepOk m ann t with
   |false=>none
   |true=>match stepT (denote tb) p w s t with
    |some (s',t')=>um tb p w m ann n s' t'
    |none=>none
theorem Cw {tb:String->Option Builtin} {p:Program} {w:World} {m:Nat} {ann:Option Value}:∀ {n:Nat} {s s':SharedT} {t:Thread},um tb p w m ann n s t=some s'->topRun tb p w m ann n s.abs t=some s'.abs
 |0,_,_,_,h=>by cases h
 |n+1,s,s',t,h=>by
  unfold um at h
  unfold topRun
  cases ht:through t with
  |true=>rw [ht] at h;cases h;rfl
  |false =>
   rw [ht] at h
   cases hk:stepOk m ann t with
   |false=>rw [hk] at h;cases h
   |true =>
    rw [hk] at h
    cases hs:stepT (denote tb) p w s t with
    |none=>rw [hs] at h;cases h
    |some r=>obtain ⟨s2,t2⟩:=r;rw [hs] at h;rw [stepT_spec hs];exact Cw h
theorem Nf {p q:Program} {loose:List Str} {Xt:Shared->Bool} {α : Type} {Yf:Shared -> α} {Ya:World -> α} {N m:Nat} {H:Params->Heap} {d:Drawn} {k:Nat} {ann:Option Value} {S:World->OsState->SharedT}
 (ho:∀ w:World,(fencedOpening treeTable p w N).map (fun s=>(s.heap,s.gens,s.drawn,s.toks))=some (H w.params,Array.mk [],d,k))
 (hz:∀ w:World,((H w.params).isNs mainGlobals&&(#[]:Array GenState).size==0,(H w.params).objs.size,(H w.params).nsMap mainGlobals (Str.ofString "__annotations__"))=(true,m,ann))
 (hs:∀ (w:World) (os:OsState),(S w os).abs=⟨H w.params,#[],d,k,os⟩)
 (hl:∀ (w:World) (os:OsState),∃ s:SharedT,um treeTable p w m ann N (S w os) (topStub p)=some s/\(staticsOk (importedModules p.main.body) (H w.params) s.abs.heap&&namesBound p s.abs.heap&&gensDone s.abs&&laidKept (H w.params) s.abs.heap)=true /\
   openSeen q loose (importedModules p.main.body) Xt true s.abs=openGood q loose/\Yf s.abs=Ya w):LeftO p q loose Xt Yf Ya N:=fun w=>by
 obtain ⟨⟨h,gs,d',k',os⟩,e,e'⟩:=oe.mp (ho w)
 obtain ⟨rfl,rfl,rfl,rfl⟩:h=H w.params/\gs = #[]/\d'=d/\k'=k:=by simpa using e'
 obtain ⟨z1,z2,z3⟩:_/\_/\_:=by simpa only [Prod.mk.injEq] using hz w
 obtain ⟨s,r,l1,l2,l3⟩:=hl w os
 have r':topRun treeTable p w m ann N ⟨H w.params,#[],d',k',os⟩ (topStub p)=some s.abs:=by rw [<-hs w os];exact Cw r
 have t:topFrom treeTable p w N ⟨H w.params,#[],d',k',os⟩=some s.abs:=by
  unfold topFrom
  dsimp only
  rw [z1,z2,z3,r']
  show (match staticsOk (importedModules p.main.body) (H w.params) s.abs.heap&&namesBound p s.abs.heap&&gensDone s.abs&&laidKept (H w.params) s.abs.heap with|true=>_|false=>_)=_
  rw [l1]
 unfold openEnds
 rw [e]
 show (topFrom treeTable p w N _).map _=_
 rw [t]
 exact congrArg some (Prod.ext l2 l3)
noncomputable def QU:List Obj->BT->Nat->BT
 | [],t,_=>t
 |o::l,t,n=>QU l (t.ins n o) (n+1)
noncomputable abbrev pw:Program:=PySem.Challenge.pw_switchrules_s01_answers
def top (i:Nat):Stmt:=PySem.Challenge.pw_switchrules_s01_answers.main.body.getD i (.Pass ⟨0,0,0,0⟩)
noncomputable def fo (x q:String) (st:Stmt) (pm:String) (tk c:Nat):Obj:=⟨.type "function",none,.func (fnOf (Str.ofString x) (Str.ofString q) (iQ st) (gC st) (aB st) .none .none .none (.str (Str.ofString pm) tk) none (.ref c) .none),#[]⟩
noncomputable def co (x q:String) (k:Nat) (l:List Value):Obj:=⟨.type "code",none,.fields (.str (Str.ofString x) k::.str (Str.ofString q) (k+1)::.str (Str.ofString "/claim/cut.py") (k+2)::l).toArray,#[]⟩
noncomputable def ko (x:String) (a n i j:Nat):Obj:=⟨.type "type",none,.cls {name:=Str.ofString x,bases:=[.type "object"],mro:=[.ref a,.type "object"],ns:=n,qualname:=Str.ofString x},#[none,none,some (.str (Str.ofString x) i),some (.str (Str.ofString x) j),some (.builtin "object.__new__"),some (.bool true)]⟩
noncomputable def dk (P:Params) (n:Nat) (l:List (String×Nat×Value)):Obj:=⟨.type "dict",none,.dict (l.map fun e=>⟨PyData.keyHash P (Str.ofString e.1),.str (Str.ofString e.1) e.2.1,e.2.2⟩).toArray n,#[]⟩
noncomputable def Kf (P:Params):Frag :=
 (nat_lit 3,dk P 108 [("__name__",165,(.str "switchrules.groups" 995)),("__doc__",166,.none),("__package__",167,.none),("__loader__",168,(.builtin "__main__.__loader__#opaque")),("__spec__",169,.none),("__annotations__",170,(.ref 6)),("__builtins__",171,(.ref 4)),("__file__",173,(.str "/claim/cut.py" 172)),("__cached__",174,.none),("cover_range",199,(.ref 21)),("count_free",208,(.ref 28)),("cover_runs",217,(.ref 35)),("MOST_BITS",221,(.int (32) 220)),("answer_blocks",229,(.ref 42)),("answer_cover",239,(.ref 49)),("tell_blocks",249,(.ref 56)),("mark",266,(.ref 63)),("list_runs",275,(.ref 70)),("count_addresses",281,(.ref 75)),("LAST_ADDRESS",285,(.int (4294967295) 284)),("LAST_KIND",287,(.int (255) 286)),("LAST_PORT",289,(.int (65535) 288)),("ALL",292,(.int (-1) 291)),("is_address",299,(.ref 82)),("is_packet",309,(.ref 89)),("ADDRESS_BITS",313,(.int (32) 312)),("KIND_BITS",315,(.int (8) 314)),("PORT_BITS",317,(.int (16) 316)),("put_side_by_side",328,(.ref 96)),("take_apart",338,(.ref 103)),("list_fields",345,(.ref 110)),("fields_of_blocks",351,(.ref 115)),("field_of_kind",358,(.ref 122)),("make_raw_rows",377,(.ref 129)),("join_rows",387,(.ref 136)),("can_be_joined",395,(.ref 143)),("is_one_bit",402,(.ref 150)),("join_two",411,(.ref 157)),("trim",419,(.ref 164)),("find_row",429,(.ref 171)),("thin",442,(.ref 178)),("file_fields",454,(.ref 185)),("is_covered",465,(.ref 192)),("covering_files",478,(.ref 199)),("Table",513,(.ref 216)),("make_table",527,(.ref 227)),("RANGE_IN",531,(.int (0) 530)),("RANGE_OUT",533,(.int (1) 532)),("GROUP_IN",535,(.int (2) 534)),("GROUP_OUT",537,(.int (3) 536)),("Switch",662,(.ref 321)),("edges_of_parts",675,(.ref 332)),("parts_hold",689,(.ref 339)),("is_range",696,(.ref 346)),("is_named_group",703,(.ref 353)),("makes_yes",710,(.ref 360)),("LAST_GROUP",714,(.int (15) 713)),("MOST_NUMBERS",716,(.int (48) 715)),("answer_group",729,(.ref 367)),("refuse_part",738,(.ref 374)),("answer_nogroup",746,(.ref 381)),("rule_has",752,(.ref 386)),("part_has",758,(.ref 391)),("answer_runs",767,(.ref 398)),("answer_member",776,(.ref 405)),("answer_size",784,(.ref 412)),("answer_same",793,(.ref 419)),("answer_inside",803,(.ref 426)),("BEGIN",807,(.int (0) 806)),("GROUP",809,(.int (1) 808)),("NOGROUP",811,(.int (2) 810)),("RULE",813,(.int (3) 812)),("NORULE",815,(.int (4) 814)),("MOVE",817,(.int (5) 816)),("RUNS",819,(.int (6) 818)),("MEMBER",821,(.int (7) 820)),("SIZE",823,(.int (8) 822)),("BLOCKS",825,(.int (9) 824)),("COVER",827,(.int (10) 826)),("SAME",829,(.int (11) 828)),("INSIDE",831,(.int (12) 830)),("ASK",833,(.int (13) 832)),("ROWS",835,(.int (14) 834)),("ROW",837,(.int (15) 836)),("LOOK",839,(.int (16) 838)),("WIDTHS",858,(.ref 427)),("read_calls",872,(.ref 434)),("MOST_RULES",876,(.int (32) 875)),("answer_rule",885,(.ref 441)),("has_right_values",893,(.ref 448)),("is_side",901,(.ref 455)),("answer_norule",909,(.ref 462)),("answer_move",918,(.ref 469)),("stands",926,(.ref 476)),("answer_ask",942,(.ref 483)),("fits_side",950,(.ref 490)),("answer_rules",959,(.ref 497)),("answer_rows",969,(.ref 504)),("answer_row",981,(.ref 511)),("answer_look",994,(.ref 518)),("GREATEST_MOST",998,(.int (1024) 997)),("NOT_BEGUN",1001,(.int (-20) 1000)),("answers",1014,(.ref 525)),("answer_call",1024,(.ref 532)),("answer_begin",1032,(.ref 539)),("answer_change",1042,(.ref 546)),("answer_of_groups",1051,(.ref 553)),("answer_of_rules",1060,(.ref 560))]) ::
 (nat_lit 20,co "cover_range" "cover_range" 189 [.int (2) 0,.int (2) 0,.int (0) 0,.int (0) 0,.int (3) 0,.ref 15,.bool true,.int (181) 0,.ref 16,.none,.ref 17,.ref 18,.ref 19,.int (197) 0,.int (2) 0,.str "/claim/cut.py" 198]) ::
 (nat_lit 21,fo "cover_range" "cover_range" (top 1) "switchrules.blocks" 187 20) ::
 (nat_lit 27,co "count_free" "count_free" 200 [.int (10) 0,.int (2) 0,.int (0) 0,.int (0) 0,.int (3) 0,.ref 22,.bool true,.int (181) 0,.ref 23,.none,.ref 24,.ref 25,.ref 26,.int (206) 0,.int (10) 0,.str "/claim/cut.py" 207]) ::
 (nat_lit 28,fo "count_free" "count_free" (top 2) "switchrules.blocks" 187 27) ::
 (nat_lit 34,co "cover_runs" "cover_runs" 209 [.int (15) 0,.int (1) 0,.int (0) 0,.int (0) 0,.int (3) 0,.ref 29,.bool true,.int (181) 0,.ref 30,.none,.ref 31,.ref 32,.ref 33,.int (215) 0,.int (15) 0,.str "/claim/cut.py" 216]) ::
 (nat_lit 35,fo "cover_runs" "cover_runs" (top 3) "switchrules.blocks" 187 34) ::
 (nat_lit 41,co "answer_blocks" "answer_blocks" 222 [.int (22) 0,.int (2) 0,.int (0) 0,.int (0) 0,.int (3) 0,.ref 36,.bool true,.int (181) 0,.ref 37,.none,.ref 38,.ref 39,.ref 40,.int (227) 0,.int (22) 0,.str "/claim/cut.py" 228]) ::
 (nat_lit 42,fo "answer_blocks" "answer_blocks" (top 6) "switchrules.block_calls" 218 41) ::
 (nat_lit 48,co "answer_cover" "answer_cover" 230 [.int (26) 0,.int (3) 0,.int (0) 0,.int (0) 0,.int (3) 0,.ref 43,.bool true,.int (181) 0,.ref 44,.none,.ref 45,.ref 46,.ref 47,.int (237) 0,.int (26) 0,.str "/claim/cut.py" 238]) ::
 (nat_lit 49,fo "answer_cover" "answer_cover" (top 7) "switchrules.block_calls" 218 48) ::
 (nat_lit 55,co "tell_blocks" "tell_blocks" 240 [.int (33) 0,.int (1) 0,.int (0) 0,.int (0) 0,.int (3) 0,.ref 50,.bool true,.int (181) 0,.ref 51,.none,.ref 52,.ref 53,.ref 54,.int (247) 0,.int (33) 0,.str "/claim/cut.py" 248]) ::
 (nat_lit 56,fo "tell_blocks" "tell_blocks" (top 8) "switchrules.block_calls" 218 55) ::
 (nat_lit 62,co "mark" "mark" 252 [.int (40) 0,.int (3) 0,.int (0) 0,.int (0) 0,.int (3) 0,.ref 57,.bool true,.int (181) 0,.ref 58,.none,.ref 59,.ref 60,.ref 61,.int (264) 0,.int (40) 0,.str "/claim/cut.py" 265]) ::
 (nat_lit 63,fo "mark" "mark" (top 10) "switchrules.edges" 250 62) ::
 (nat_lit 69,co "list_runs" "list_runs" 267 [.int (59) 0,.int (1) 0,.int (0) 0,.int (0) 0,.int (3) 0,.ref 64,.bool true,.int (181) 0,.ref 65,.none,.ref 66,.ref 67,.ref 68,.int (273) 0,.int (59) 0,.str "/claim/cut.py" 274]) ::
 (nat_lit 70,fo "list_runs" "list_runs" (top 11) "switchrules.edges" 250 69) ::
 (nat_lit 74,co "count_addresses" "count_addresses" 276 [.int (65) 0,.int (1) 0,.int (0) 0,.int (0) 0,.int (3) 0,.ref 71,.bool true,.int (181) 0,.ref 72,.none,.none,.none,.ref 73,.int (279) 0,.int (65) 0,.str "/claim/cut.py" 280]) ::
 (nat_lit 75,fo "count_addresses" "count_addresses" (top 12) "switchrules.edges" 250 74) ::
 (nat_lit 81,co "is_address" "is_address" 293 [.int (72) 0,.int (1) 0,.int (0) 0,.int (0) 0,.int (3) 0,.ref 76,.bool true,.int (181) 0,.ref 77,.none,.ref 78,.ref 79,.ref 80,.int (297) 0,.int (72) 0,.str "/claim/cut.py" 298]) ::
 (nat_lit 82,fo "is_address" "is_address" (top 18) "switchrules.limits" 282 81) ::
 (nat_lit 88,co "is_packet" "is_packet" 300 [.int (74) 0,.int (4) 0,.int (0) 0,.int (0) 0,.int (3) 0,.ref 83,.bool true,.int (181) 0,.ref 84,.none,.ref 85,.ref 86,.ref 87,.int (307) 0,.int (74) 0,.str "/claim/cut.py" 308]) ::
 (nat_lit 89,fo "is_packet" "is_packet" (top 19) "switchrules.limits" 282 88) ::
 (nat_lit 95,co "put_side_by_side" "put_side_by_side" 318 [.int (80) 0,.int (4) 0,.int (0) 0,.int (0) 0,.int (3) 0,.ref 90,.bool true,.int (181) 0,.ref 91,.none,.ref 92,.ref 93,.ref 94,.int (326) 0,.int (80) 0,.str "/claim/cut.py" 327]) ::
 (nat_lit 96,fo "put_side_by_side" "put_side_by_side" (top 24) "switchrules.rows" 310 95) ::
 (nat_lit 102,co "take_apart" "take_apart" 329 [.int (83) 0,.int (1) 0,.int (0) 0,.int (0) 0,.int (3) 0,.ref 97,.bool true,.int (181) 0,.ref 98,.none,.ref 99,.ref 100,.ref 101,.int (336) 0,.int (83) 0,.str "/claim/cut.py" 337]) ::
 (nat_lit 103,fo "take_apart" "take_apart" (top 25) "switchrules.rows" 310 102) ::
 (nat_lit 109,co "list_fields" "list_fields" 339 [.int (88) 0,.int (1) 0,.int (0) 0,.int (0) 0,.int (3) 0,.ref 104,.bool true,.int (181) 0,.ref 105,.none,.ref 106,.ref 107,.ref 108,.int (343) 0,.int (88) 0,.str "/claim/cut.py" 344]) ::
 (nat_lit 110,fo "list_fields" "list_fields" (top 26) "switchrules.rows" 310 109) ::
 (nat_lit 114,co "fields_of_blocks" "fields_of_blocks" 346 [.int (90) 0,.int (2) 0,.int (0) 0,.int (0) 0,.int (3) 0,.ref 111,.bool true,.int (181) 0,.ref 112,.none,.none,.none,.ref 113,.int (349) 0,.int (90) 0,.str "/claim/cut.py" 350]) ::
 (nat_lit 115,fo "fields_of_blocks" "fields_of_blocks" (top 27) "switchrules.rows" 310 114) ::
 (nat_lit 121,co "field_of_kind" "field_of_kind" 352 [.int (92) 0,.int (1) 0,.int (0) 0,.int (0) 0,.int (3) 0,.ref 116,.bool true,.int (181) 0,.ref 117,.none,.ref 118,.ref 119,.ref 120,.int (356) 0,.int (92) 0,.str "/claim/cut.py" 357]) ::
 (nat_lit 122,fo "field_of_kind" "field_of_kind" (top 28) "switchrules.rows" 310 121) ::
 (nat_lit 128,co "make_raw_rows" "make_raw_rows" 359 [.int (94) 0,.int (4) 0,.int (0) 0,.int (0) 0,.int (3) 0,.ref 123,.bool true,.int (181) 0,.ref 124,.none,.ref 125,.ref 126,.ref 127,.int (375) 0,.int (94) 0,.str "/claim/cut.py" 376]) ::
 (nat_lit 129,fo "make_raw_rows" "make_raw_rows" (top 29) "switchrules.rows" 310 128) ::
 (nat_lit 135,co "join_rows" "join_rows" 378 [.int (106) 0,.int (1) 0,.int (0) 0,.int (0) 0,.int (3) 0,.ref 130,.bool true,.int (181) 0,.ref 131,.none,.ref 132,.ref 133,.ref 134,.int (385) 0,.int (106) 0,.str "/claim/cut.py" 386]) ::
 (nat_lit 136,fo "join_rows" "join_rows" (top 30) "switchrules.rows" 310 135) ::
 (nat_lit 142,co "can_be_joined" "can_be_joined" 388 [.int (114) 0,.int (2) 0,.int (0) 0,.int (0) 0,.int (3) 0,.ref 137,.bool true,.int (181) 0,.ref 138,.none,.ref 139,.ref 140,.ref 141,.int (393) 0,.int (114) 0,.str "/claim/cut.py" 394]) ::
 (nat_lit 143,fo "can_be_joined" "can_be_joined" (top 31) "switchrules.rows" 310 142) ::
 (nat_lit 149,co "is_one_bit" "is_one_bit" 396 [.int (116) 0,.int (1) 0,.int (0) 0,.int (0) 0,.int (3) 0,.ref 144,.bool true,.int (181) 0,.ref 145,.none,.ref 146,.ref 147,.ref 148,.int (400) 0,.int (116) 0,.str "/claim/cut.py" 401]) ::
 (nat_lit 150,fo "is_one_bit" "is_one_bit" (top 32) "switchrules.rows" 310 149) ::
 (nat_lit 156,co "join_two" "join_two" 403 [.int (118) 0,.int (2) 0,.int (0) 0,.int (0) 0,.int (3) 0,.ref 151,.bool true,.int (181) 0,.ref 152,.none,.ref 153,.ref 154,.ref 155,.int (409) 0,.int (118) 0,.str "/claim/cut.py" 410]) ::
 (nat_lit 157,fo "join_two" "join_two" (top 33) "switchrules.rows" 310 156) ::
 (nat_lit 163,co "trim" "trim" 412 [.int (121) 0,.int (1) 0,.int (0) 0,.int (0) 0,.int (3) 0,.ref 158,.bool true,.int (181) 0,.ref 159,.none,.ref 160,.ref 161,.ref 162,.int (417) 0,.int (121) 0,.str "/claim/cut.py" 418]) ::
 (nat_lit 164,fo "trim" "trim" (top 34) "switchrules.rows" 310 163) ::
 (nat_lit 170,co "find_row" "find_row" 420 [.int (126) 0,.int (2) 0,.int (0) 0,.int (0) 0,.int (3) 0,.ref 165,.bool true,.int (181) 0,.ref 166,.none,.ref 167,.ref 168,.ref 169,.int (427) 0,.int (126) 0,.str "/claim/cut.py" 428]) ::
 (nat_lit 171,fo "find_row" "find_row" (top 35) "switchrules.rows" 310 170) ::
 (nat_lit 177,co "thin" "thin" 432 [.int (132) 0,.int (1) 0,.int (0) 0,.int (0) 0,.int (3) 0,.ref 172,.bool true,.int (181) 0,.ref 173,.none,.ref 174,.ref 175,.ref 176,.int (440) 0,.int (132) 0,.str "/claim/cut.py" 441]) ::
 (nat_lit 178,fo "thin" "thin" (top 37) "switchrules.thinning" 430 177) ::
 (nat_lit 184,co "file_fields" "file_fields" 443 [.int (141) 0,.int (2) 0,.int (0) 0,.int (0) 0,.int (3) 0,.ref 179,.bool true,.int (181) 0,.ref 180,.none,.ref 181,.ref 182,.ref 183,.int (452) 0,.int (141) 0,.str "/claim/cut.py" 453]) ::
 (nat_lit 185,fo "file_fields" "file_fields" (top 38) "switchrules.thinning" 430 184) ::
 (nat_lit 191,co "is_covered" "is_covered" 455 [.int (146) 0,.int (2) 0,.int (0) 0,.int (0) 0,.int (3) 0,.ref 186,.bool true,.int (181) 0,.ref 187,.none,.ref 188,.ref 189,.ref 190,.int (463) 0,.int (146) 0,.str "/claim/cut.py" 464]) ::
 (nat_lit 192,fo "is_covered" "is_covered" (top 39) "switchrules.thinning" 430 191) ::
 (nat_lit 198,co "covering_files" "covering_files" 466 [.int (151) 0,.int (3) 0,.int (0) 0,.int (0) 0,.int (3) 0,.ref 193,.bool true,.int (181) 0,.ref 194,.none,.ref 195,.ref 196,.ref 197,.int (476) 0,.int (151) 0,.str "/claim/cut.py" 477]) ::
 (nat_lit 199,fo "covering_files" "covering_files" (top 40) "switchrules.thinning" 430 198) ::
 (nat_lit 212,co "__init__" "Table.__init__" 493 [.int (161) 0,.int (4) 0,.int (0) 0,.int (0) 0,.int (3) 0,.ref 207,.bool true,.int (181) 0,.ref 208,.none,.ref 209,.ref 210,.ref 211,.int (500) 0,.int (161) 0,.str "/claim/cut.py" 501]) ::
 (nat_lit 213,fo "__init__" "Table.__init__" (inClass (top 42) 0) "switchrules.table" 479 212) ::
 (nat_lit 215,dk P 4 [("__module__",488,(.str "switchrules.table" 479)),("__firstlineno__",492,(.int (159) 491)),("__init__",502,(.ref 213)),("__static_attributes__",506,(.ref 214)),("__dict__",508,(.ref 217)),("__weakref__",510,(.ref 218)),("__doc__",511,.none)]) ::
 (nat_lit 216,ko "Table" 216 215 481 489) ::
 (nat_lit 226,co "make_table" "make_table" 514 [.int (165) 0,.int (1) 0,.int (0) 0,.int (0) 0,.int (3) 0,.ref 221,.bool true,.int (181) 0,.ref 222,.none,.ref 223,.ref 224,.ref 225,.int (525) 0,.int (165) 0,.str "/claim/cut.py" 526]) ::
 (nat_lit 227,fo "make_table" "make_table" (top 43) "switchrules.table" 479 226) ::
 (nat_lit 240,co "__init__" "Switch.__init__" 550 [.int (185) 0,.int (1) 0,.int (0) 0,.int (0) 0,.int (3) 0,.ref 235,.bool true,.int (181) 0,.ref 236,.none,.ref 237,.ref 238,.ref 239,.int (554) 0,.int (185) 0,.str "/claim/cut.py" 555]) ::
 (nat_lit 241,fo "__init__" "Switch.__init__" (inClass (top 49) 0) "switchrules.switch" 528 240) ::
 (nat_lit 247,co "has_begun" "Switch.has_begun" 557 [.int (192) 0,.int (1) 0,.int (0) 0,.int (0) 0,.int (3) 0,.ref 242,.bool true,.int (181) 0,.ref 243,.none,.ref 244,.ref 245,.ref 246,.int (561) 0,.int (192) 0,.str "/claim/cut.py" 562]) ::
 (nat_lit 248,fo "has_begun" "Switch.has_begun" (inClass (top 49) 1) "switchrules.switch" 528 247) ::
 (nat_lit 254,co "begin_anew" "Switch.begin_anew" 564 [.int (195) 0,.int (2) 0,.int (0) 0,.int (0) 0,.int (3) 0,.ref 249,.bool true,.int (181) 0,.ref 250,.none,.ref 251,.ref 252,.ref 253,.int (569) 0,.int (195) 0,.str "/claim/cut.py" 570]) ::
 (nat_lit 255,fo "begin_anew" "Switch.begin_anew" (inClass (top 49) 2) "switchrules.switch" 528 254) ::
 (nat_lit 261,co "set_group" "Switch.set_group" 572 [.int (202) 0,.int (3) 0,.int (0) 0,.int (0) 0,.int (3) 0,.ref 256,.bool true,.int (181) 0,.ref 257,.none,.ref 258,.ref 259,.ref 260,.int (578) 0,.int (202) 0,.str "/claim/cut.py" 579]) ::
 (nat_lit 262,fo "set_group" "Switch.set_group" (inClass (top 49) 3) "switchrules.switch" 528 261) ::
 (nat_lit 268,co "drop_group" "Switch.drop_group" 581 [.int (207) 0,.int (2) 0,.int (0) 0,.int (0) 0,.int (3) 0,.ref 263,.bool true,.int (181) 0,.ref 264,.none,.ref 265,.ref 266,.ref 267,.int (586) 0,.int (207) 0,.str "/claim/cut.py" 587]) ::
 (nat_lit 269,fo "drop_group" "Switch.drop_group" (inClass (top 49) 4) "switchrules.switch" 528 268) ::
 (nat_lit 275,co "add_rule" "Switch.add_rule" 589 [.int (212) 0,.int (3) 0,.int (0) 0,.int (0) 0,.int (3) 0,.ref 270,.bool true,.int (181) 0,.ref 271,.none,.ref 272,.ref 273,.ref 274,.int (595) 0,.int (212) 0,.str "/claim/cut.py" 596]) ::
 (nat_lit 276,fo "add_rule" "Switch.add_rule" (inClass (top 49) 5) "switchrules.switch" 528 275) ::
 (nat_lit 282,co "drop_rule" "Switch.drop_rule" 598 [.int (216) 0,.int (2) 0,.int (0) 0,.int (0) 0,.int (3) 0,.ref 277,.bool true,.int (181) 0,.ref 278,.none,.ref 279,.ref 280,.ref 281,.int (603) 0,.int (216) 0,.str "/claim/cut.py" 604]) ::
 (nat_lit 283,fo "drop_rule" "Switch.drop_rule" (inClass (top 49) 6) "switchrules.switch" 528 282) ::
 (nat_lit 289,co "move_rule" "Switch.move_rule" 606 [.int (220) 0,.int (3) 0,.int (0) 0,.int (0) 0,.int (3) 0,.ref 284,.bool true,.int (181) 0,.ref 285,.none,.ref 286,.ref 287,.ref 288,.int (613) 0,.int (220) 0,.str "/claim/cut.py" 614]) ::
 (nat_lit 290,fo "move_rule" "Switch.move_rule" (inClass (top 49) 7) "switchrules.switch" 528 289) ::
 (nat_lit 296,co "edges_of" "Switch.edges_of" 616 [.int (225) 0,.int (2) 0,.int (0) 0,.int (0) 0,.int (3) 0,.ref 291,.bool true,.int (181) 0,.ref 292,.none,.ref 293,.ref 294,.ref 295,.int (622) 0,.int (225) 0,.str "/claim/cut.py" 623]) ::
 (nat_lit 297,fo "edges_of" "Switch.edges_of" (inClass (top 49) 8) "switchrules.switch" 528 296) ::
 (nat_lit 303,co "edges_of_side" "Switch.edges_of_side" 625 [.int (231) 0,.int (2) 0,.int (0) 0,.int (0) 0,.int (3) 0,.ref 298,.bool true,.int (181) 0,.ref 299,.none,.ref 300,.ref 301,.ref 302,.int (630) 0,.int (231) 0,.str "/claim/cut.py" 631]) ::
 (nat_lit 304,fo "edges_of_side" "Switch.edges_of_side" (inClass (top 49) 9) "switchrules.switch" 528 303) ::
 (nat_lit 310,co "find_table" "Switch.find_table" 633 [.int (234) 0,.int (1) 0,.int (0) 0,.int (0) 0,.int (3) 0,.ref 305,.bool true,.int (181) 0,.ref 306,.none,.ref 307,.ref 308,.ref 309,.int (637) 0,.int (234) 0,.str "/claim/cut.py" 638]) ::
 (nat_lit 311,fo "find_table" "Switch.find_table" (inClass (top 49) 10) "switchrules.switch" 528 310) ::
 (nat_lit 317,co "groups_holding" "Switch.groups_holding" 640 [.int (239) 0,.int (2) 0,.int (0) 0,.int (0) 0,.int (3) 0,.ref 312,.bool true,.int (181) 0,.ref 313,.none,.ref 314,.ref 315,.ref 316,.int (647) 0,.int (239) 0,.str "/claim/cut.py" 648]) ::
 (nat_lit 318,fo "groups_holding" "Switch.groups_holding" (inClass (top 49) 11) "switchrules.switch" 528 317) ::
 (nat_lit 320,dk P 4 [("__module__",545,(.str "switchrules.switch" 528)),("__firstlineno__",549,(.int (183) 548)),("__init__",556,(.ref 241)),("has_begun",563,(.ref 248)),("begin_anew",571,(.ref 255)),("set_group",580,(.ref 262)),("drop_group",588,(.ref 269)),("add_rule",597,(.ref 276)),("drop_rule",605,(.ref 283)),("move_rule",615,(.ref 290)),("edges_of",624,(.ref 297)),("edges_of_side",632,(.ref 304)),("find_table",639,(.ref 311)),("groups_holding",649,(.ref 318)),("__static_attributes__",655,(.ref 319)),("__dict__",657,(.ref 322)),("__weakref__",659,(.ref 323)),("__doc__",660,.none)]) ::
 (nat_lit 321,ko "Switch" 321 320 538 546) ::
 (nat_lit 331,co "edges_of_parts" "edges_of_parts" 663 [.int (244) 0,.int (2) 0,.int (0) 0,.int (0) 0,.int (3) 0,.ref 326,.bool true,.int (181) 0,.ref 327,.none,.ref 328,.ref 329,.ref 330,.int (673) 0,.int (244) 0,.str "/claim/cut.py" 674]) ::
 (nat_lit 332,fo "edges_of_parts" "edges_of_parts" (top 50) "switchrules.switch" 528 331) ::
 (nat_lit 338,co "parts_hold" "parts_hold" 676 [.int (250) 0,.int (3) 0,.int (0) 0,.int (0) 0,.int (3) 0,.ref 333,.bool true,.int (181) 0,.ref 334,.none,.ref 335,.ref 336,.ref 337,.int (687) 0,.int (250) 0,.str "/claim/cut.py" 688]) ::
 (nat_lit 339,fo "parts_hold" "parts_hold" (top 51) "switchrules.switch" 528 338) ::
 (nat_lit 345,co "is_range" "is_range" 690 [.int (257) 0,.int (1) 0,.int (0) 0,.int (0) 0,.int (3) 0,.ref 340,.bool true,.int (181) 0,.ref 341,.none,.ref 342,.ref 343,.ref 344,.int (694) 0,.int (257) 0,.str "/claim/cut.py" 695]) ::
 (nat_lit 346,fo "is_range" "is_range" (top 52) "switchrules.switch" 528 345) ::
 (nat_lit 352,co "is_named_group" "is_named_group" 697 [.int (259) 0,.int (1) 0,.int (0) 0,.int (0) 0,.int (3) 0,.ref 347,.bool true,.int (181) 0,.ref 348,.none,.ref 349,.ref 350,.ref 351,.int (701) 0,.int (259) 0,.str "/claim/cut.py" 702]) ::
 (nat_lit 353,fo "is_named_group" "is_named_group" (top 53) "switchrules.switch" 528 352) ::
 (nat_lit 359,co "makes_yes" "makes_yes" 704 [.int (261) 0,.int (1) 0,.int (0) 0,.int (0) 0,.int (3) 0,.ref 354,.bool true,.int (181) 0,.ref 355,.none,.ref 356,.ref 357,.ref 358,.int (708) 0,.int (261) 0,.str "/claim/cut.py" 709]) ::
 (nat_lit 360,fo "makes_yes" "makes_yes" (top 54) "switchrules.switch" 528 359) ::
 (nat_lit 366,co "answer_group" "answer_group" 717 [.int (266) 0,.int (3) 0,.int (0) 0,.int (0) 0,.int (3) 0,.ref 361,.bool true,.int (181) 0,.ref 362,.none,.ref 363,.ref 364,.ref 365,.int (727) 0,.int (266) 0,.str "/claim/cut.py" 728]) ::
 (nat_lit 367,fo "answer_group" "answer_group" (top 58) "switchrules.group_calls" 711 366) ::
 (nat_lit 373,co "refuse_part" "refuse_part" 730 [.int (278) 0,.int (3) 0,.int (0) 0,.int (0) 0,.int (3) 0,.ref 368,.bool true,.int (181) 0,.ref 369,.none,.ref 370,.ref 371,.ref 372,.int (736) 0,.int (278) 0,.str "/claim/cut.py" 737]) ::
 (nat_lit 374,fo "refuse_part" "refuse_part" (top 59) "switchrules.group_calls" 711 373) ::
 (nat_lit 380,co "answer_nogroup" "answer_nogroup" 739 [.int (286) 0,.int (2) 0,.int (0) 0,.int (0) 0,.int (3) 0,.ref 375,.bool true,.int (181) 0,.ref 376,.none,.ref 377,.ref 378,.ref 379,.int (744) 0,.int (286) 0,.str "/claim/cut.py" 745]) ::
 (nat_lit 381,fo "answer_nogroup" "answer_nogroup" (top 60) "switchrules.group_calls" 711 380) ::
 (nat_lit 385,co "rule_has" "rule_has" 747 [.int (293) 0,.int (2) 0,.int (0) 0,.int (0) 0,.int (3) 0,.ref 382,.bool true,.int (181) 0,.ref 383,.none,.none,.none,.ref 384,.int (750) 0,.int (293) 0,.str "/claim/cut.py" 751]) ::
 (nat_lit 386,fo "rule_has" "rule_has" (top 61) "switchrules.group_calls" 711 385) ::
 (nat_lit 390,co "part_has" "part_has" 753 [.int (295) 0,.int (2) 0,.int (0) 0,.int (0) 0,.int (3) 0,.ref 387,.bool true,.int (181) 0,.ref 388,.none,.none,.none,.ref 389,.int (756) 0,.int (295) 0,.str "/claim/cut.py" 757]) ::
 (nat_lit 391,fo "part_has" "part_has" (top 62) "switchrules.group_calls" 711 390) ::
 (nat_lit 397,co "answer_runs" "answer_runs" 759 [.int (300) 0,.int (2) 0,.int (0) 0,.int (0) 0,.int (3) 0,.ref 392,.bool true,.int (181) 0,.ref 393,.none,.ref 394,.ref 395,.ref 396,.int (765) 0,.int (300) 0,.str "/claim/cut.py" 766]) ::
 (nat_lit 398,fo "answer_runs" "answer_runs" (top 63) "switchrules.group_calls" 711 397) ::
 (nat_lit 404,co "answer_member" "answer_member" 768 [.int (305) 0,.int (3) 0,.int (0) 0,.int (0) 0,.int (3) 0,.ref 399,.bool true,.int (181) 0,.ref 400,.none,.ref 401,.ref 402,.ref 403,.int (774) 0,.int (305) 0,.str "/claim/cut.py" 775]) ::
 (nat_lit 405,fo "answer_member" "answer_member" (top 64) "switchrules.group_calls" 711 404) ::
 (nat_lit 411,co "answer_size" "answer_size" 777 [.int (311) 0,.int (2) 0,.int (0) 0,.int (0) 0,.int (3) 0,.ref 406,.bool true,.int (181) 0,.ref 407,.none,.ref 408,.ref 409,.ref 410,.int (782) 0,.int (311) 0,.str "/claim/cut.py" 783]) ::
 (nat_lit 412,fo "answer_size" "answer_size" (top 65) "switchrules.group_calls" 711 411) ::
 (nat_lit 418,co "answer_same" "answer_same" 785 [.int (315) 0,.int (3) 0,.int (0) 0,.int (0) 0,.int (3) 0,.ref 413,.bool true,.int (181) 0,.ref 414,.none,.ref 415,.ref 416,.ref 417,.int (791) 0,.int (315) 0,.str "/claim/cut.py" 792]) ::
 (nat_lit 419,fo "answer_same" "answer_same" (top 66) "switchrules.group_calls" 711 418) ::
 (nat_lit 425,co "answer_inside" "answer_inside" 794 [.int (319) 0,.int (3) 0,.int (0) 0,.int (0) 0,.int (3) 0,.ref 420,.bool true,.int (181) 0,.ref 421,.none,.ref 422,.ref 423,.ref 424,.int (801) 0,.int (319) 0,.str "/claim/cut.py" 802]) ::
 (nat_lit 426,fo "answer_inside" "answer_inside" (top 67) "switchrules.group_calls" 711 425) ::
 (nat_lit 427,⟨.type "tuple",none,.seq #[(.int (1) 840),(.int (1) 841),(.int (1) 842),(.int (7) 843),(.int (1) 844),(.int (2) 845),(.int (1) 846),(.int (2) 847),(.int (1) 848),(.int (1) 849),(.int (3) 850),(.int (2) 851),(.int (2) 852),(.int (4) 853),(.int (0) 854),(.int (1) 855),(.int (4) 856),(.int (0) 857)] 0,#[]⟩) ::
 (nat_lit 433,co "read_calls" "read_calls" 859 [.int (343) 0,.int (1) 0,.int (0) 0,.int (0) 0,.int (3) 0,.ref 428,.bool true,.int (181) 0,.ref 429,.none,.ref 430,.ref 431,.ref 432,.int (870) 0,.int (343) 0,.str "/claim/cut.py" 871]) ::
 (nat_lit 434,fo "read_calls" "read_calls" (top 87) "switchrules.reader" 804 433) ::
 (nat_lit 440,co "answer_rule" "answer_rule" 877 [.int (360) 0,.int (3) 0,.int (0) 0,.int (0) 0,.int (3) 0,.ref 435,.bool true,.int (181) 0,.ref 436,.none,.ref 437,.ref 438,.ref 439,.int (883) 0,.int (360) 0,.str "/claim/cut.py" 884]) ::
 (nat_lit 441,fo "answer_rule" "answer_rule" (top 90) "switchrules.rule_calls" 873 440) ::
 (nat_lit 447,co "has_right_values" "has_right_values" 886 [.int (371) 0,.int (1) 0,.int (0) 0,.int (0) 0,.int (3) 0,.ref 442,.bool true,.int (181) 0,.ref 443,.none,.ref 444,.ref 445,.ref 446,.int (891) 0,.int (371) 0,.str "/claim/cut.py" 892]) ::
 (nat_lit 448,fo "has_right_values" "has_right_values" (top 91) "switchrules.rule_calls" 873 447) ::
 (nat_lit 454,co "is_side" "is_side" 894 [.int (374) 0,.int (2) 0,.int (0) 0,.int (0) 0,.int (3) 0,.ref 449,.bool true,.int (181) 0,.ref 450,.none,.ref 451,.ref 452,.ref 453,.int (899) 0,.int (374) 0,.str "/claim/cut.py" 900]) ::
 (nat_lit 455,fo "is_side" "is_side" (top 92) "switchrules.rule_calls" 873 454) ::
 (nat_lit 461,co "answer_norule" "answer_norule" 902 [.int (376) 0,.int (2) 0,.int (0) 0,.int (0) 0,.int (3) 0,.ref 456,.bool true,.int (181) 0,.ref 457,.none,.ref 458,.ref 459,.ref 460,.int (907) 0,.int (376) 0,.str "/claim/cut.py" 908]) ::
 (nat_lit 462,fo "answer_norule" "answer_norule" (top 93) "switchrules.rule_calls" 873 461) ::
 (nat_lit 468,co "answer_move" "answer_move" 910 [.int (381) 0,.int (3) 0,.int (0) 0,.int (0) 0,.int (3) 0,.ref 463,.bool true,.int (181) 0,.ref 464,.none,.ref 465,.ref 466,.ref 467,.int (916) 0,.int (381) 0,.str "/claim/cut.py" 917]) ::
 (nat_lit 469,fo "answer_move" "answer_move" (top 94) "switchrules.rule_calls" 873 468) ::
 (nat_lit 475,co "stands" "stands" 919 [.int (386) 0,.int (2) 0,.int (0) 0,.int (0) 0,.int (3) 0,.ref 470,.bool true,.int (181) 0,.ref 471,.none,.ref 472,.ref 473,.ref 474,.int (924) 0,.int (386) 0,.str "/claim/cut.py" 925]) ::
 (nat_lit 476,fo "stands" "stands" (top 95) "switchrules.rule_calls" 873 475) ::
 (nat_lit 482,co "answer_ask" "answer_ask" 927 [.int (388) 0,.int (5) 0,.int (0) 0,.int (0) 0,.int (3) 0,.ref 477,.bool true,.int (181) 0,.ref 478,.none,.ref 479,.ref 480,.ref 481,.int (940) 0,.int (388) 0,.str "/claim/cut.py" 941]) ::
 (nat_lit 483,fo "answer_ask" "answer_ask" (top 96) "switchrules.rule_calls" 873 482) ::
 (nat_lit 489,co "fits_side" "fits_side" 943 [.int (398) 0,.int (2) 0,.int (0) 0,.int (0) 0,.int (3) 0,.ref 484,.bool true,.int (181) 0,.ref 485,.none,.ref 486,.ref 487,.ref 488,.int (948) 0,.int (398) 0,.str "/claim/cut.py" 949]) ::
 (nat_lit 490,fo "fits_side" "fits_side" (top 97) "switchrules.rule_calls" 873 489) ::
 (nat_lit 496,co "answer_rules" "answer_rules" 951 [.int (400) 0,.int (1) 0,.int (0) 0,.int (0) 0,.int (3) 0,.ref 491,.bool true,.int (181) 0,.ref 492,.none,.ref 493,.ref 494,.ref 495,.int (957) 0,.int (400) 0,.str "/claim/cut.py" 958]) ::
 (nat_lit 497,fo "answer_rules" "answer_rules" (top 98) "switchrules.rule_calls" 873 496) ::
 (nat_lit 503,co "answer_rows" "answer_rows" 962 [.int (406) 0,.int (1) 0,.int (0) 0,.int (0) 0,.int (3) 0,.ref 498,.bool true,.int (181) 0,.ref 499,.none,.ref 500,.ref 501,.ref 502,.int (967) 0,.int (406) 0,.str "/claim/cut.py" 968]) ::
 (nat_lit 504,fo "answer_rows" "answer_rows" (top 100) "switchrules.table_calls" 960 503) ::
 (nat_lit 510,co "answer_row" "answer_row" 970 [.int (411) 0,.int (2) 0,.int (0) 0,.int (0) 0,.int (3) 0,.ref 505,.bool true,.int (181) 0,.ref 506,.none,.ref 507,.ref 508,.ref 509,.int (979) 0,.int (411) 0,.str "/claim/cut.py" 980]) ::
 (nat_lit 511,fo "answer_row" "answer_row" (top 101) "switchrules.table_calls" 960 510) ::
 (nat_lit 517,co "answer_look" "answer_look" 982 [.int (422) 0,.int (5) 0,.int (0) 0,.int (0) 0,.int (3) 0,.ref 512,.bool true,.int (181) 0,.ref 513,.none,.ref 514,.ref 515,.ref 516,.int (992) 0,.int (422) 0,.str "/claim/cut.py" 993]) ::
 (nat_lit 518,fo "answer_look" "answer_look" (top 102) "switchrules.table_calls" 960 517) ::
 (nat_lit 524,co "answers" "answers" 1002 [.int (433) 0,.int (1) 0,.int (0) 0,.int (0) 0,.int (3) 0,.ref 519,.bool true,.int (181) 0,.ref 520,.none,.ref 521,.ref 522,.ref 523,.int (1012) 0,.int (433) 0,.str "/claim/cut.py" 1013]) ::
 (nat_lit 525,fo "answers" "answers" (top 106) "switchrules.groups" 995 524) ::
 (nat_lit 531,co "answer_call" "answer_call" 1015 [.int (441) 0,.int (4) 0,.int (0) 0,.int (0) 0,.int (3) 0,.ref 526,.bool true,.int (181) 0,.ref 527,.none,.ref 528,.ref 529,.ref 530,.int (1022) 0,.int (441) 0,.str "/claim/cut.py" 1023]) ::
 (nat_lit 532,fo "answer_call" "answer_call" (top 107) "switchrules.groups" 995 531) ::
 (nat_lit 538,co "answer_begin" "answer_begin" 1025 [.int (451) 0,.int (2) 0,.int (0) 0,.int (0) 0,.int (3) 0,.ref 533,.bool true,.int (181) 0,.ref 534,.none,.ref 535,.ref 536,.ref 537,.int (1030) 0,.int (451) 0,.str "/claim/cut.py" 1031]) ::
 (nat_lit 539,fo "answer_begin" "answer_begin" (top 108) "switchrules.groups" 995 538) ::
 (nat_lit 545,co "answer_change" "answer_change" 1033 [.int (456) 0,.int (4) 0,.int (0) 0,.int (0) 0,.int (3) 0,.ref 540,.bool true,.int (181) 0,.ref 541,.none,.ref 542,.ref 543,.ref 544,.int (1040) 0,.int (456) 0,.str "/claim/cut.py" 1041]) ::
 (nat_lit 546,fo "answer_change" "answer_change" (top 109) "switchrules.groups" 995 545) ::
 (nat_lit 552,co "answer_of_groups" "answer_of_groups" 1043 [.int (466) 0,.int (3) 0,.int (0) 0,.int (0) 0,.int (3) 0,.ref 547,.bool true,.int (181) 0,.ref 548,.none,.ref 549,.ref 550,.ref 551,.int (1049) 0,.int (466) 0,.str "/claim/cut.py" 1050]) ::
 (nat_lit 553,fo "answer_of_groups" "answer_of_groups" (top 110) "switchrules.groups" 995 552) ::
 (nat_lit 559,co "answer_of_rules" "answer_of_rules" 1052 [.int (480) 0,.int (3) 0,.int (0) 0,.int (0) 0,.int (3) 0,.ref 554,.bool true,.int (181) 0,.ref 555,.none,.ref 556,.ref 557,.ref 558,.int (1058) 0,.int (480) 0,.str "/claim/cut.py" 1059]) ::
 (nat_lit 560,fo "answer_of_rules" "answer_of_rules" (top 111) "switchrules.groups" 995 559)::[]
noncomputable def asK:List Addr:=[3,20,21,27,28,34,35,41,42,48,49,55,56,62,63,69,70,74,75,81,82,88,89,95,96,102,103,109,110,114,115,121,122,128,129,135,136,142,143,149,150,156,157,163,164,170,171,177,178,184,185,191,192,198,199,212,213,215,216,226,227,240,241,247,248,254,255,261,262,268,269,275,276,282,283,289,290,296,297,303,304,310,311,317,318,320,321,331,332,338,339,345,346,352,353,359,360,366,367,373,374,380,381,385,386,390,391,397,398,404,405,411,412,418,419,425,426,427,433,434,440,441,447,448,454,455,461,462,468,469,475,476,482,483,489,490,496,497,503,504,510,511,517,518,524,525,531,532,538,539,545,546,552,553,559,560]
noncomputable def hk:Hook:=kHook Kf asK fun _=>by kernel_rfl
noncomputable abbrev qv:Program:=PySem.W.view pw [106]
noncomputable def lo:List Str:=(["cover_range","count_free","cover_runs","MOST_BITS","answer_blocks","answer_cover","tell_blocks","mark","list_runs","count_addresses","LAST_ADDRESS","LAST_KIND","LAST_PORT","ALL","is_address","is_packet","ADDRESS_BITS","KIND_BITS","PORT_BITS","put_side_by_side","take_apart","list_fields","fields_of_blocks","field_of_kind","make_raw_rows","join_rows","can_be_joined","is_one_bit","join_two","trim","find_row","thin","file_fields","is_covered","covering_files","Table","make_table","RANGE_IN","RANGE_OUT","GROUP_IN","GROUP_OUT","Switch","edges_of_parts","parts_hold","is_range","is_named_group","makes_yes","LAST_GROUP","MOST_NUMBERS","answer_group","refuse_part","answer_nogroup","rule_has","part_has","answer_runs","answer_member","answer_size","answer_same","answer_inside","BEGIN","GROUP","NOGROUP","RULE","NORULE","MOVE","RUNS","MEMBER","SIZE","BLOCKS","COVER","SAME","INSIDE","ASK","ROWS","ROW","LOOK","WIDTHS","read_calls","MOST_RULES","answer_rule","has_right_values","is_side","answer_norule","answer_move","stands","answer_ask","fits_side","answer_rules","answer_rows","answer_row","answer_look","GREATEST_MOST","NOT_BEGUN","answer_call","answer_begin","answer_change","answer_of_groups","answer_of_rules"]:List String).map Str.ofString
noncomputable abbrev Xv:Shared->Bool:=fun s=>xlAt qv [] s&&recOk [] s
noncomputable def S0 (w:World) (os:OsState):SharedT:=⟨QU (boot_heap w.params).objs.toList .nil 0,11,(boot_heap w.params).life,#[],boot_drawn,boot_toks,os⟩
theorem Q1 (w:World) (os:OsState):(S0 w os).abs=⟨boot_heap w.params,#[],boot_drawn,boot_toks,os⟩:=by kernel_rfl
noncomputable def Sk (w:World) (os:OsState):Option SharedT:=um treeTable pw w 11 (some (.ref 6)) 6578 (S0 w os) (topStub pw)
noncomputable def look (w:World) (s:Shared):=(staticsOk (importedModules pw.main.body) (boot_heap w.params) s.heap&&namesBound pw s.heap&&gensDone s&&laidKept (boot_heap w.params) s.heap,openSeen qv lo (importedModules pw.main.body) Xv true s)
noncomputable def Nz (s:SharedT) (a:Addr):Option Obj:=match Nat.blt a s.n with
 |true=>(s.tree.get a).bind alive
 |false=>none
theorem Ny {s:SharedT} {a:Addr} {o:Obj} (h:Nz s a=some o):s.abs.heap.get? a=some o:=by
 unfold Nz at h
 cases e:Nat.blt a s.n with
 |false=>rw [e] at h;cases h
 |true =>
  rw [e] at h
  cases g:s.tree.get a with
  |none=>rw [g] at h;cases h
  |some o'=>rw [g] at h;exact (abs_get (Nat.le_of_ble_eq_true e) g).trans h
theorem Lk {s:SharedT}:∀ {l:List Addr} {k:List (Nat×Obj)},l.map (Nz s)=k.map (fun p=>some p.2)->l.map s.abs.heap.get? = k.map (fun p=>some p.2)
 | [],[],_=>rfl
 | [],_::_,h=>by cases h
 |_::_,[],h=>by cases h
 |a::l,p::k,h=>by
  rw [aW,aW] at h ⊢
  rw [Ny (List.cons.inj h).1,Lk (List.cons.inj h).2]
theorem Q0:PySem.Challenge.rw_switchrules_s01_answers.wellSaid=true:=by decide +kernel
theorem opens:(chainsOk qv&&opensWell PySem.Challenge.rw_switchrules_s01_answers.prog)=true:=by decide +kernel
theorem looked (w:World) (os:OsState):(Sk w os).map (fun s=>(look w s.abs,asK.map (Nz s)))=some ((true,openGood qv lo),(Kf w.params).map fun p=>some p.2):=by kernel_rfl
theorem opened:∀ w:World,(fencedOpening treeTable pw w 6578).map (fun s=>(s.heap,s.gens,s.drawn,s.toks))=some (boot_heap w.params,Array.mk [],boot_drawn,boot_toks):=boot_open (by kernel_rfl) (by decide) (fun s=>by kernel_rfl)
theorem QZ (w:World):((boot_heap w.params).isNs mainGlobals&&(#[]:Array GenState).size==0,(boot_heap w.params).objs.size,(boot_heap w.params).nsMap mainGlobals (Str.ofString "__annotations__"))=(true,11,some (.ref 6)):=by kernel_rfl
theorem left:LeftO pw qv lo Xv hk.obs hk.val 6578:=Nf opened QZ Q1 fun w os=>by
 obtain ⟨s,r,l⟩:=oe.mp (looked w os)
 obtain ⟨l0,l3⟩:=Prod.mk.inj l
 obtain ⟨l1,l2⟩:=Prod.mk.inj l0
 exact ⟨s,r,l1,l2,Lk l3⟩
end Sw
set_option maxRecDepth 100000
namespace L2
open PySem PySem.Spec PyProof.Rows
abbrev Key:=Sum Int Str
def uR:Key->Value->Bool
 |.inl k,v=>Value.isInt k v
 |.inr x,v=>Value.isStrOf x v
def Sx (w:World):Key->Int
 |.inl k=>hashInt k
 |.inr x=>hashStr w x
theorem eQ:∀ {k:Key} {v:Value},uR k v=true->(∃ i t,k=Sum.inl i/\v=Value.int i t)\/(∃ x t,k=Sum.inr x/\v=Value.str x t)
 |.inl i,v,h=>by
  obtain ⟨t,e⟩:=Value.isInt_shape (k:=i) (v:=v) h
  exact .inl ⟨i,t,rfl,e⟩
 |.inr x,v,h=>by
  obtain ⟨t,e⟩:=Value.isStrOf_shape (x:=x) (v:=v) h
  exact .inr ⟨x,t,rfl,e⟩
theorem JW (i:Int) (t:Tok):uR (.inl i) (.int i t)=true:=by simp [uR,Value.isInt]
theorem JV (x:Str) (t:Tok):uR (.inr x) (.str x t)=true:=by simp [uR,Value.isStrOf]
theorem Pk (a b:Int):decide ((Sum.inl a:Key)=Sum.inl b)=(a==b):=by
 by_cases e:a=b
 ·subst e;simp
 ·have h:¬(Sum.inl a:Key)=Sum.inl b:=fun q=>e (Sum.inl.inj q)
  rw [decide_eq_false h]
  exact (beq_eq_false_iff_ne.mpr e).symm
theorem Pg (a b:Str):decide ((Sum.inr a:Key)=Sum.inr b)=decide (a=b):=by
 by_cases e:a=b
 ·subst e;simp
 ·have h:¬(Sum.inr a:Key)=Sum.inr b:=fun q=>e (Sum.inr.inj q)
  rw [decide_eq_false h,decide_eq_false e]
theorem Pj (a:Int) (b:Str):decide ((Sum.inl a:Key)=Sum.inr b)=false:=decide_eq_false (fun q=>nomatch q)
theorem Ph (a:Str) (b:Int):decide ((Sum.inr a:Key)=Sum.inl b)=false:=decide_eq_false (fun q=>nomatch q)
def cY (prog:Program) (w:World):PySem.KeyKind prog w Key where
 is:=uR
 hash:=Sx w
 inj:=fun v a b ha hb=>by
  rcases eQ ha with ⟨i,t,rfl,rfl⟩|⟨x,t,rfl,rfl⟩
  ·rcases eQ hb with ⟨j,u,rfl,e⟩|⟨y,u,rfl,e⟩
   ·injection e with e1 _;rw [e1]
   ·exact nomatch e
  ·rcases eQ hb with ⟨j,u,rfl,e⟩|⟨y,u,rfl,e⟩
   ·exact nomatch e
   ·injection e with e1 _;rw [e1]
 byValue:=fun k v h=>by
  rcases eQ h with ⟨i,t,rfl,rfl⟩|⟨x,t,rfl,rfl⟩<;>rfl
 pyHash:=fun hv h=>by
  rcases eQ hv with ⟨i,t,rfl,rfl⟩|⟨x,t,rfl,rfl⟩
  ·exact wpAny_pyHash_int h
  ·exact wpAny_pyHash_str h
 eqBool:=fun hu hv h=>by
  rcases eQ hu with ⟨i,t,rfl,rfl⟩|⟨x,t,rfl,rfl⟩
  ·rcases eQ hv with ⟨j,u,rfl,rfl⟩|⟨y,u,rfl,rfl⟩
   ·rw [Pk] at h;exact wpAny_eqBool_int h
   ·rw [Pj] at h;exact SeqAt.EqAt.int_str i t y u _ _ _ _ h
  ·rcases eQ hv with ⟨j,u,rfl,rfl⟩|⟨y,u,rfl,rfl⟩
   ·rw [Ph] at h;exact SeqAt.EqAt.str_int x t j u _ _ _ _ h
   ·rw [Pg] at h;exact wpAny_eqBool_str h
 «strs» := fun k x t v h=>by
  rcases eQ h with ⟨i,u,rfl,e⟩|⟨y,u,rfl,e⟩
  ·exact nomatch e
  ·injection e with e1 _
   subst e1
   cases v<;>rfl
theorem FQ (prog:Program) (w:World) (i:Int) (t:Tok):(cY prog w).is (.inl i) (.int i t)=true:=JW i t
theorem FP (prog:Program) (w:World) (x:Str) (t:Tok):(cY prog w).is (.inr x) (.str x t)=true:=JV x t
end L2
namespace L2
open PySem PySem.Spec PyProof.Rows
inductive V where
 |non|bl (b:Bool)|int (i:Int)|str (x:Str)|byt (b:Array UInt8)|flt (b:UInt64)|ref (a:Addr)|ty (n:String)
 deriving DecidableEq
def RelV:V->Value->Prop
 |.non,u=>u=Value.none
 |.bl b,u=>u=Value.bool b
 |.int i,u=>∃ t,u=Value.int i t
 |.str x,u=>∃ t,u=Value.str x t
 |.byt b,u=>∃ t,u=Value.bytes b t
 |.flt b,u=>∃ t,u=Value.float b t
 |.ref a,u=>u=Value.ref a
 |.ty n,u=>u=Value.type n
abbrev Vals:List V->List Value->Prop:=Paired RelV
theorem Vals.length {xs:List V} {us:List Value} (r:Vals xs us):xs.length=us.length:=Paired.length r
theorem Vals.get:∀ {xs:List V} {us:List Value} {i:Nat} {x:V},Vals xs us->xs[i]? = some x->∃ u,us[i]? = some u/\RelV x u
 |_,_,_,_,.nil,e=>by simp at e
 |_,_,0,_,.cons r _,e=>by simp at e;subst e;exact ⟨_,rfl,r⟩
 |_,_,i+1,x,.cons _ t,e=>by
  obtain ⟨u,h1,h2⟩:=Vals.get (i:=i) (x:=x) t (by simpa using e)
  exact ⟨u,by simpa using h1,h2⟩
theorem Vals.set {x:V} {u:Value} (r:RelV x u):∀ {xs:List V} {us:List Value} (i:Nat),Vals xs us->Vals (xs.set i x) (us.set i u)
 |_,_,_,.nil=>.nil
 |_,_,0,.cons _ t=>.cons r t
 |_,_,i+1,.cons q t=>.cons q (Vals.set r i t)
theorem Vals.append:∀ {xs ys:List V} {us ws:List Value},Vals xs us->Vals ys ws->Vals (xs++ys) (us++ws)
 |_,_,_,_,.nil,s=>s
 |_,_,_,_,.cons r t,s=>.cons r (Vals.append t s)
theorem Vals.take:∀ {xs:List V} {us:List Value} (n:Nat),Vals xs us->Vals (xs.take n) (us.take n)
 |_,_,0,_=>.nil
 |_,_,_+1,.nil=>.nil
 |_,_,n+1,.cons r t=>.cons r (Vals.take n t)
theorem Vals.drop:∀ {xs:List V} {us:List Value} (n:Nat),Vals xs us->Vals (xs.drop n) (us.drop n)
 |_,_,0,r=>r
 |_,_,_+1,.nil=>.nil
 |_,_,n+1,.cons _ t=>Vals.drop n t
def qT:Option V->Option Value->Prop
 |some v,some u=>RelV v u
 |none,none=>True
 |_,_=>False
def KV {κ : Type}:List (κ × V)->List (κ × Value)->Prop:=Paired fun (p : κ × V) (q : κ × Value)=>p.1=q.1/\RelV p.2 q.2
def kV:Key->V
 |.inl i=>.int i
 |.inr x=>.str x
inductive HO where
 |lst (xs:List V)
 |tup (xs:List V)
 |dK (kvs:List (Key×V))|dT (kvs:List (List Key×V))
 |set (S:Int->Bool) (n:Nat)
 |ins (C dx:Addr) (fs:List (Str×V))
 |own (x:Addr)
 |xd (fs:List (Str×V))
 |met (f x:Addr)
 |rng (lo hi:Int)
 |frz (o:Obj) (u:HO)
 |tbl (ps:Array Value)
 |ext (φ : Heap->Prop)
abbrev Hp:=Addr->Option HO
def upd (H:Hp) (a:Addr) (o:HO):Hp:=fun b=>if b=a then some o else H b
theorem aw {H:Hp} {a:Addr} {o:HO}:upd H a o a=some o:=by unfold upd;rw [if_pos rfl]
theorem au {H:Hp} {a b:Addr} {o:HO} (h:b≠a):upd H a o b=H b:=by unfold upd;rw [if_neg h]
theorem gS {H:Hp} {a:Addr} {o u:HO}:upd (upd H a o) a u=upd H a u:=by
 funext b;unfold upd;split<;>rfl
theorem bR {H:Hp} {a b:Addr} {o u:HO} (h:H a=some o) (h':H b=some u) (d:o≠u):a≠b:=by
 intro e;subst e;rw [h] at h';exact d (ax h')
theorem az {H:Hp} {a b:Addr} {o:HO} (h:H a=some o) (h':H b=none):a≠b:=by
 intro e;subst e;rw [h] at h';cases h'
section
variable (P:Program) (w:World)
def fB (H:Hp) (h:Heap) (a:Addr):HO->Prop
 |.lst xs=>xs.length<=sizeLine/\∃ (its:List Value) (n:Nat),Vals xs its/\h.get? a=some {cls:=.type "list",data:=.seq its.toArray n}
 |.tup xs=>xs.length<=sizeLine/\∃ its:List Value,Vals xs its/\IsTup h a its.toArray
 |.dK kvs=>kvs.length<=sizeLine/\(a==sysModules)=false/\∃ vs,KV kvs vs/\h.DictOf (cY P w) a vs
 |.dT kvs=>kvs.length<=sizeLine/\(a==sysModules)=false/\∃ xs:List (List Key×Addr×Value),
  Paired (fun (p:List Key×V) (q:List Key×Addr×Value)=>p.1=q.1/\H q.2.1=some (.tup (p.1.map kV))/\RelV p.2 q.2.2) kvs xs /\
  ∃ o es ep,h.get? a=some o/\o.ExactDict/\o.data=.dict es ep/\es.toList=xs.map (entryOfKey (tupleKind (cY P w)))/\(xs.map (·.1)).Nodup
 |.set S n=>h.SetOf (intKind P w) a S n
 |.ins C dx fs=>H dx=some (.own a)/\fs.length<=1000/\dx≠a/\h.get? a=some (PySem.W.instObj C dx) /\
  ∃ mA,h.Ns1 dx mA/\(∀ f,qT (fs.lookup f) (mA f))/\PySem.Within mA (fs.map (·.1))
 |.own _=>∃ o,h.get? a=some o
 |.xd fs=>∃ mA,h.Ns1 a mA/\∀ f,qT (fs.lookup f) (mA f)
 |.rng lo hi=>∃ t u v,h.get? a=some {cls:=.type "range",data:=.fields #[.int lo t,.int hi u,.int 1 v]}
 |.frz o u=>h.get? a=some o/\fB H h a u
 |.tbl ps=>h.get? a=some {cls:=.none,data:=.fields ps}
 |.met f x=>h.get? a=some (PySem.W.methodObj (.ref f) (.ref x))
 |.ext φ => φ h/\(∃ o,h.get? a=some o)/\∀ h1 h2:Heap,φ h1->(∀ o,h1.get? a=some o->h2.get? a=some o) -> φ h2
def HOk (H:Hp) (h:Heap):Prop:=∀ a o,H a=some o->fB P w H h a o
end
section
variable {P:Program} {w:World} {H H':Hp} {h h':Heap} {a:Addr} {o:HO}
theorem fB.lt (x:fB P w H h a o):a<h.objs.size:=by
 cases o with
 |lst xs=>obtain ⟨_,_,_,_,e⟩:=x;exact aI e
 |tup xs=>obtain ⟨_,_,_,p⟩:=x;exact p.lt
 |dK kvs=>obtain ⟨_,_,_,_,o,_,_,e,_⟩:=x;exact aI e
 |dT kvs=>obtain ⟨_,_,_,_,o,_,_,e,_⟩:=x;exact aI e
 |set S n=>obtain ⟨o,_,_,_,e,_⟩:=x;exact aI e
 |ins C dx fs=>obtain ⟨_,_,_,e,_⟩:=x;exact aI e
 |own y=>obtain ⟨_,e⟩:=x;exact aI e
 |xd fs=>obtain ⟨_,⟨_,_,_,e,_⟩,_⟩:=x;exact aI e
 |rng lo hi=>obtain ⟨_,_,_,e⟩:=x;exact aI e
 |frz ob u=>obtain ⟨e,_⟩:=x;exact aI e
 |tbl ps=>exact aI (show h.get? a=some _ from x)
 |met f y=>exact aI (show h.get? a=some _ from x)
 |ext φ => obtain ⟨_,⟨_,e⟩,_⟩:=x;exact aI e
theorem Paired.Pf {α β : Type} {F G : α -> β -> Prop}:∀ {l₁ : List α} {l₂ : List β},Paired F l₁ l₂ -> (∀ a b,F a b->G a b)->Paired G l₁ l₂
 |_,_,.nil,_=>.nil
 |_,_,.cons r t,f=>.cons (f _ _ r) (Paired.Pf t f)
theorem fB.oR (x:fB P w H h a o) (k:∀ b u,(b=a\/H b=some (.own a))->h.get? b=some u->h'.get? b=some u)
 (ho:∀ b,H b=some (.own a)->H' b=some (.own a)) (ht:∀ b xs,H b=some (.tup xs)->H' b=some (.tup xs)):fB P w H' h' a o:=by
 induction o with
 |lst xs=>obtain ⟨z,its,n,r,e⟩:=x;exact ⟨z,its,n,r,k _ _ (.inl rfl) e⟩
 |tup xs=>obtain ⟨z,its,r,ob,e,c⟩:=x;exact ⟨z,its,r,ob,k _ _ (.inl rfl) e,c⟩
 |dK kvs=>obtain ⟨z,y,vs,r,ob,es,ep,e,c⟩:=x;exact ⟨z,y,vs,r,ob,es,ep,k _ _ (.inl rfl) e,c⟩
 |dT kvs =>
  obtain ⟨z,y,xs,r,ob,es,ep,e,c⟩:=x
  exact ⟨z,y,xs,Paired.Pf r fun p q z=>⟨z.1,ht _ _ z.2.1,z.2.2⟩,ob,es,ep,k _ _ (.inl rfl) e,c⟩
 |set S n=>obtain ⟨ob,es,ep,t,e,c⟩:=x;exact ⟨ob,es,ep,t,k _ _ (.inl rfl) e,c⟩
 |ins C dx fs =>
  obtain ⟨d,z,ne,e,mA,⟨od,es,ep,e2,c⟩,r⟩:=x
  exact ⟨ho _ d,z,ne,k _ _ (.inl rfl) e,mA,⟨od,es,ep,k _ _ (.inr d) e2,c⟩,r⟩
 |own y=>obtain ⟨ob,e⟩:=x;exact ⟨ob,k _ _ (.inl rfl) e⟩
 |xd fs=>obtain ⟨mA,⟨od,es,ep,e,c⟩,r⟩:=x;exact ⟨mA,⟨od,es,ep,k _ _ (.inl rfl) e,c⟩,r⟩
 |rng lo hi=>obtain ⟨t,u,v,e⟩:=x;exact ⟨t,u,v,k _ _ (.inl rfl) e⟩
 |frz ob u ih=>obtain ⟨e,q⟩:=x;exact ⟨k _ _ (.inl rfl) e,ih q⟩
 |tbl ps =>
  have e:h.get? a=some {cls:=.none,data:=.fields ps}:=x
  show h'.get? a=some {cls:=.none,data:=.fields ps}
  exact k a _ (.inl rfl) e
 |met f y =>
  have e:h.get? a=some (PySem.W.methodObj (.ref f) (.ref y)):=x
  show h'.get? a=some (PySem.W.methodObj (.ref f) (.ref y))
  exact k a _ (.inl rfl) e
 |ext φ => obtain ⟨p,⟨o,e⟩,st⟩:=x;exact ⟨st _ _ p fun o q=>k _ _ (.inl rfl) q,⟨o,k _ _ (.inl rfl) e⟩,st⟩
theorem HOk.lt (x:HOk P w H h) (e:H a=some o):a<h.objs.size:=(x a o e).lt
theorem HOk.fresh (x:HOk P w H h) (e:h.objs.size<=a):H a=none:=by
 cases q:H a with
 |none=>rfl
 |some u=>exact absurd (bh (x.lt q) e) (dZ _)
theorem HOk.kept (x:HOk P w H h) (k:∀ b u,h.get? b=some u->h'.get? b=some u):HOk P w H h':=fun a o e =>
 (x a o e).oR (fun b u _ q=>k b u q) (fun _ q=>q) fun _ _ q=>q
theorem HOk.laid (x:HOk P w H h) (k:∀ b u,h.get? b=some u->h'.get? b=some u) (hp:h.objs.size<=a) (new:fB P w (upd H a o) h' a o):HOk P w (upd H a o) h':=fun b u e=>by
 have hn:=x.fresh hp
 by_cases hb:b=a
 ·subst hb;rw [aw] at e;cases e;exact new
 ·rw [au hb] at e
  exact (x b u e).oR (fun c v _ q=>k c v q) (fun c q=>by rw [au (az q hn)];exact q) fun c xs q=>by rw [au (az q hn)];exact q
end
def Rd (H:Hp) (a:Addr) (u:HO):Prop:=H a=some u\/∃ o,H a=some (.frz o u)
theorem Rd.ok {P:Program} {w:World} {H:Hp} {h:Heap} {a:Addr} {u:HO} (r:Rd H a u) (x:HOk P w H h):fB P w H h a u:=by
 rcases r with r|⟨o,r⟩
 ·exact x a u r
 ·obtain ⟨_,q⟩:=x a _ r
  exact q
def Mut:Option HO->Prop
 |some (.lst _)=>True
 |some (.dK _)=>True
 |some (.dT _)=>True
 |some (.set _ _)=>True
 |some (.ins _ _ _)=>True
 |some (.ext _)=>True
 |_=>False
section
variable {P:Program} {w:World} {H:Hp} {h h':Heap} {x e:Addr} {o':HO}
theorem HOk.write (ok:HOk P w H h) (mu:Mut (H x)) (he:e=x\/H e=some (.own x)) (k:∀ b u,b≠e->h.get? b=some u->h'.get? b=some u) (heo:∃ u,h'.get? e=some u)
 (new:fB P w (upd H x o') h' x o'):HOk P w (upd H x o') h':=fun b u q=>by
 have Q7:∀ c y,H c=some (.own y)->c≠x:=fun c y r z=>by subst z;rw [r] at mu;exact mu
 have Ll:∀ c xs,H c=some (.tup xs)->c≠x:=fun c xs r z=>by subst z;rw [r] at mu;exact mu
 by_cases hb:b=x
 ·subst hb;rw [aw] at q;cases q;exact new
 ·rw [au hb] at q
  by_cases hbe:b=e
  ·have q':H b=some (.own x):=by
    rcases he with z|z
    ·exact absurd (hbe.trans z) hb
    ·rw [hbe];exact z
   rw [q] at q';cases q'
   obtain ⟨v,hv⟩:=heo
   exact ⟨v,by rw [hbe];exact hv⟩
  ·refine (ok b u q).oR (fun c v hc r=>k c v ?_ r) (fun c r=>by rw [au (Q7 c b r)];exact r) fun c xs r=>by rw [au (Ll c xs r)];exact r
   rcases hc with rfl|hc
   ·exact hbe
   ·rintro rfl
    rcases he with z|z
    ·exact Q7 c b hc z
    ·rw [hc] at z;cases z;exact hb rfl
end
structure Un (fs ex:List Addr) (H H':Hp) (h h':Heap):Prop where
 keep:∀ b o,h.get? b=some o->H b=none->b∉fs->b∉ex->h'.get? b=some o
 slot:∀ b o,h.get? b=some o->H b=none->b∈fs->b∉ex->∃ sl,h'.get? b=some {o with slots:=sl}
 free:∀ b o,h.get? b=some o->H b=none->b∉ex->H' b=none
 there:∀ b o,h.get? b=some o->b∉ex->∃ o',h'.get? b=some o'
 Di:∀ b xs,H b=some (.tup xs)->H' b=some (.tup xs)
 z0:∀ b o u,H b=some (.frz o u)->H' b=some (.frz o u)
 Dv:∀ b ps,H b=some (.tbl ps)->∃ more,H' b=some (.tbl (ps++more))
section
variable {fs fs' ex ex':List Addr} {H H1 H2:Hp} {h h1 h2 h':Heap} {a x e:Addr} {o:HO}
theorem Un.any (u:Un fs ex H H1 h h1) {b:Addr} {ob:Obj} (q:h.get? b=some ob) (n:H b=none) (hx:b∉ex):∃ sl,h1.get? b=some {ob with slots:=sl}:=by
 by_cases hb:b∈fs
 ·exact u.slot b ob q n hb hx
 ·exact ⟨ob.slots,u.keep b ob q n hb hx⟩
theorem Un.kept (k:∀ b u,h.get? b=some u->h'.get? b=some u):Un fs ex H H h h' :=
 ⟨fun b ob q _ _ _=>k b ob q,fun b ob q _ _ _=>⟨ob.slots,k b ob q⟩,fun _ _ _ n _=>n,fun b ob q _=>⟨ob,k b ob q⟩,fun _ _ q=>q,fun _ _ _ q=>q,fun _ ps q=>⟨#[],by rw [q];simp⟩⟩
theorem Un.refl:Un fs ex H H h h:=Un.kept fun _ _ q=>q
theorem Un.laid (k:∀ b u,h.get? b=some u->h'.get? b=some u) (hp:h.objs.size<=a) (hn:H a=none):Un fs ex H (upd H a o) h h' where
 keep:=fun b u q _ _ _=>k b u q
 slot:=fun b u q _ _ _=>⟨u.slots,k b u q⟩
 free:=fun b u q n _=>by rw [au (bD (bh (aI q) hp))];exact n
 there:=fun b u q _=>⟨u,k b u q⟩
 Di:=fun b xs q=>by rw [au (az q hn)];exact q
 z0:=fun b u xs q=>by rw [au (az q hn)];exact q
 Dv:=fun b ps q=>⟨#[],by rw [au (az q hn),q];simp⟩
theorem Un.write (mu:Mut (H x)) (he:e=x\/H e=some (.own x)) (k:∀ b u,b≠e->h.get? b=some u->h'.get? b=some u) (heo:∃ u,h'.get? e=some u):Un fs ex H (upd H x o) h h':=by
 have hx:∀ b,H b=none->b≠x:=fun b n z=>by subst z;rw [n] at mu;exact mu
 have hb:∀ b,H b=none->b≠e:=fun b n z=>by
  subst z
  rcases he with r|r
  ·exact hx b n r
  ·rw [n] at r;cases r
 have hm:∀ b u,H b=some u->¬Mut (some u)->b≠x:=fun b u q nm z=>by subst z;rw [q] at mu;exact nm mu
 refine ⟨fun b u q n _ _=>k b u (hb b n) q,fun b u q n _ _=>⟨u.slots,k b u (hb b n) q⟩,fun b u q n _=>by rw [au (hx b n)];exact n,fun b u q _ => ?_,
  fun b xs q=>by rw [au (hm b _ q fun z=>z)];exact q,fun b u xs q=>by rw [au (hm b _ q fun z=>z)];exact q,fun b ps q=>⟨#[],by rw [au (hm b _ q fun z=>z),q];simp⟩⟩
 by_cases hbe:b=e
 ·subst hbe;exact heo
 ·exact ⟨u,k b u hbe q⟩
end
def trk (h:Heap) (H:Hp):List Addr:=(List.range h.objs.size).filter fun a=>(H a).isSome
def Eb (h:Heap) (H:Hp):Heap:=PySem.W.hideAll h (trk h H)
theorem J1 (h:Heap) (H:Hp):(Eb h H).objs.size=h.objs.size:=PySem.W.hideAll_size _ _
theorem LH {h:Heap} {H:Hp} {b:Addr} {o:Obj} (e:h.get? b=some o) (n:H b=none):(Eb h H).get? b=some o :=
 PySem.W.hideAll_get _ e fun hm=>by
  have q:(H b).isSome=true:=(fz.mp hm).2
  rw [n] at q;simp at q
theorem MX {h:Heap} {H:Hp} {b:Addr} {o:Obj} (e:(Eb h H).get? b=some o):h.get? b=some o/\H b=none:=by
 have e':h.get? b=some o:=PySem.W.of_hideAll (trk h H) e
 refine ⟨e',?_⟩
 cases q:H b with
 |none=>rfl
 |some x =>
  have hm:b∈trk h H:=fz.mpr ⟨List.mem_range.mpr (aI e'),by simp [q]⟩
  have z:(Eb h H).get? b=none:=PySem.W.hideAll_none (trk h H) hm
  rw [z] at e;cases e
end L2
namespace L2
open PySem PySem.Spec PyProof.Rows
structure Mod (K:Frag) (mg:Str->Option Value) (base:Heap):Prop where
 kin:K.In base
 glob:base.Ns mainGlobals mg
 blt:∃ mb,base.Ns builtinsNs mb/\∀ x:Str,x≠"__name__"->mb x=bootBuiltins x
 nolimit:base.NoLimit
structure Cx where
 prog:Program
 w:World
 K:Frag
 mg:Str->Option Value
 base:Heap
 A:Around
 N:List Str
 s_0:Shared
 H_0:Hp
 env:Env
 outer:List Env
 stack:List Env
 ex:List Addr
 fn:Str->Bool
 calm:Bool
 pn:List (Addr×Obj)
 xe:Value->Shared->Prop
def frs (l:List Env):List Addr:=l.filterMap (·.frame)
abbrev Cx.fs (X:Cx):List Addr:=frs X.outer
def Vis (sc:Scope) (x:Str):Prop:=sc.names.lookup x=some .local\/sc.names.lookup x=some .cell\/sc.names.lookup x=some .free
def Loc (sc:Scope) (x:Str):Prop:=sc.names.lookup x=some .local\/sc.names.lookup x=some .cell
def Look (env:Env) (h:Heap) (m:Str->Option Value) (x:Str) (u:Value):Prop :=
 (env.kindOf x=some .local/\m x=some u)\/((env.kindOf x=some .cell\/env.kindOf x=some .free)/\∃ c,env.cells.lookup x=some c/\h.IsCell c (some u))
structure Cx.Ok (X:Cx):Prop where
 mod:Mod X.K X.mg X.base
 kind:X.env.scope.kind=.function
 glob:X.env.globals=mainGlobals
 blt:X.env.builtins=builtinsNs
 above:X.s_0.heap.objs.size<=X.env.locals
 inj:∀ x y c,X.env.cells.lookup x=some c->X.env.cells.lookup y=some c->x=y
 has:∀ x,(X.env.kindOf x=some .cell\/X.env.kindOf x=some .free)->∃ c,X.env.cells.lookup x=some c
 cab:∀ x c,X.fn x=true->X.env.cells.lookup x=some c->X.s_0.heap.objs.size<=c
 hd:X.calm=true->X.A.handled=none
 frames:X.A.frames=some X.stack
 stk:X.stack=X.outer\/(X.stack=X.env::X.outer/\X.env.frame=some X.env.locals)
 exf:∀ b∈X.ex,b≠X.env.locals/\∀ x c,X.env.cells.lookup x=some c->c≠b
 bs:∀ b o,X.base.get? b=some o->X.s_0.heap.get? b=some o/\X.H_0 b=none
 bsz:X.base.objs.size<=X.s_0.heap.objs.size
 Ln:∀ b o,X.base.get? b=some o->b∉X.ex
 LP:∀ b∈X.ex,b∉X.fs
 yi:X.s_0.heap.FunFrames X.base X.outer
 frf:∀ b∈X.fs,X.H_0 b=none
structure Inv (X:Cx) (pins:List (Addr×Obj)) (σ : List (Option V)) (H:Hp) (s:Shared):Prop where
 ok:X.Ok
 os:s.os=X.s_0.os
 bare:AllBare s.gens
 base:Un X.fs X.ex X.H_0 H X.s_0.heap s.heap
 loc:∃ m,s.heap.Ns X.env.locals m/\∀ (i:Nat) (x:Str) (v:V),X.N[i]? = some x -> σ[i]? = some (some v)->Vis X.env.scope x->∃ u,RelV v u/\Look X.env s.heap m x u
 cell:∀ x c,X.env.cells.lookup x=some c->∃ v,s.heap.IsCell c v
 free:H X.env.locals=none
 oF:∀ x c,X.env.cells.lookup x=some c->H c=none
 pin:∀ p∈X.pn++pins,s.heap.get? p.1=some p.2/\H p.1=none/\p.1≠X.env.locals/\p.1∉X.fs/\∀ v,p.2.data ≠ .cell v
 hok:HOk X.prog X.w H s.heap
 len : σ.length=X.N.length
section
variable {X:Cx} {pins:List (Addr×Obj)} {σ : List (Option V)} {H H':Hp} {s:Shared} {h':Heap}
theorem Cx.Ok.Sq (ok:X.Ok) {b:Addr} {o:Obj} (e:X.base.get? b=some o):b∉X.fs:=fun hb=>by
 have:=(ok.yi.mem hb).1
 rw [e] at this;cases this
theorem Inv.bs (I:Inv X pins σ H s):∀ b o,X.base.get? b=some o->s.heap.get? b=some o/\H b=none:=fun b o e =>
 ⟨I.base.keep b o (I.ok.bs b o e).1 (I.ok.bs b o e).2 (I.ok.Sq e) (I.ok.Ln b o e),I.base.free b o (I.ok.bs b o e).1 (I.ok.bs b o e).2 (I.ok.Ln b o e)⟩
theorem Inv.bk (I:Inv X pins σ H s):∀ b o,X.base.get? b=some o->s.heap.get? b=some o:=fun b o e=>(I.bs b o e).1
theorem Inv.mod (I:Inv X pins σ H s):Mod X.K X.mg X.base:=I.ok.mod
theorem Inv.kIn (I:Inv X pins σ H s):X.K.In s.heap:=I.ok.mod.kin.keeps I.bk
theorem Inv.fr (I:Inv X pins σ H s):∃ m,Fr X.base X.env.locals s.heap m :=
 let ⟨m,hn,_⟩:=I.loc
 ⟨m,hn,I.bk,bB I.ok.bsz I.ok.above⟩
theorem Inv.lt (I:Inv X pins σ H s):X.env.locals<s.heap.objs.size:=let ⟨_,hn,_⟩:=I.loc;hn.lt
theorem Inv.sz (I:Inv X pins σ H s):X.s_0.heap.objs.size<=s.heap.objs.size:=bB I.ok.above (Nat.le_of_lt I.lt)
theorem Inv.So (I:Inv X pins σ H s) {a:Addr} (h:s.heap.objs.size<=a):a∉X.fs:=fun hb=>by
 obtain ⟨_,o,ho,_⟩:=I.ok.yi.mem hb
 exact absurd (bh (aI ho) (bB I.sz h)) (dZ _)
theorem Inv.cne (I:Inv X pins σ H s):∀ x c,X.env.cells.lookup x=some c->c≠X.env.locals:=fun x c e z=>by
 obtain ⟨v,o,ho,hd⟩:=I.cell x c e
 obtain ⟨m,⟨o',es,ep,ho',hd',_⟩,_⟩:=I.loc
 rw [z,ho'] at ho;cases ho;rw [hd'] at hd;cases hd
theorem Inv.yi (I:Inv X pins σ H s):s.heap.FunFrames X.base X.outer:=by
 have all:∀ (l:List Env),(∀ b∈frs l,b∈X.fs)->X.s_0.heap.FunFrames X.base l->s.heap.FunFrames X.base l:=by
  intro l
  induction l with
  |nil=>intro _ _;trivial
  |cons env r ih =>
   intro hs hl
   obtain ⟨hk,⟨L,o,hf,hn,ho,hd⟩,hr⟩:=hl
   have hL:L∈X.fs:=hs L (by unfold frs;rw [List.filterMap_cons,hf];exact bY)
   obtain ⟨sl,e⟩:=I.base.slot L o ho (I.ok.frf L hL) hL fun z=>I.ok.LP L z hL
   exact ⟨hk,⟨L,_,hf,hn,e,hd⟩,ih (fun b hb=>hs b (by unfold frs;rw [List.filterMap_cons,hf];exact ba _ hb)) hr⟩
 exact all X.outer (fun _ hb=>hb) I.ok.yi
theorem Inv.stack (I:Inv X pins σ H s):s.heap.FunFrames X.base X.stack:=by
 rcases I.ok.stk with e|⟨e,hf⟩
 ·rw [e];exact I.yi
 ·rw [e]
  obtain ⟨m,hn,_⟩:=I.loc
  refine .cons (by rw [I.ok.kind];decide) hf hn ?_ I.yi
  exact Heap.get?_none_of_le (bB I.ok.bsz I.ok.above)
theorem Inv.GR (I:Inv X pins σ H s):∀ b∈frs X.stack,b∈X.env.locals::X.fs:=fun b hb=>by
 rcases I.ok.stk with e|⟨e,hf⟩
 ·rw [e] at hb;exact ba _ hb
 ·rw [e] at hb
  unfold frs at hb
  rw [List.filterMap_cons,hf] at hb
  exact hb
theorem Inv.Iq (I:Inv X pins σ H s):∀ b∈frs X.stack,H b=none:=fun b hb=>by
 rcases ae.mp (I.GR b hb) with e|hb
 ·rw [e];exact I.free
 ·obtain ⟨_,o,ho,_⟩:=I.ok.yi.mem hb
  exact I.base.free b o ho (I.ok.frf b hb) fun z=>I.ok.LP b z hb
theorem Inv.step {g':Array GenState} {t':Nat} {d':Drawn} {ch:List Addr} (I:Inv X pins σ H s)
 (hch:∀ b∈ch,(b∈X.ex\/X.s_0.heap.objs.size<=b)/\b≠X.env.locals/\(∀ x c,X.env.cells.lookup x=some c->c≠b)/\∀ p∈X.pn++pins,p.1≠b)
 (keep:∀ b o,b≠X.env.locals->b∉X.fs->b∉ch->s.heap.get? b=some o->H b=none->h'.get? b=some o)
 (slot:∀ b o,b≠X.env.locals->b∈X.fs->b∉ch->s.heap.get? b=some o->H b=none->∃ sl,h'.get? b=some {o with slots:=sl}) (free:∀ b o,b∉ch->s.heap.get? b=some o->H b=none->H' b=none)
 (there:∀ b o,b∉ch->s.heap.get? b=some o->∃ o',h'.get? b=some o')
 (Di:∀ b xs,H b=some (.tup xs)->H' b=some (.tup xs)) (z0:∀ b o u,H b=some (.frz o u)->H' b=some (.frz o u)) (Dv:∀ b ps,H b=some (.tbl ps)->∃ more,H' b=some (.tbl (ps++more)))
 (ns:∀ m,s.heap.Ns X.env.locals m->h'.Ns X.env.locals m) (hok:HOk X.prog X.w H' h') (hg:AllBare g') :
 Inv X pins σ H' {s with heap:=h',gens:=g',drawn:=d',toks:=t' }:=by
 have neL:∀ b o,X.s_0.heap.get? b=some o->b≠X.env.locals:=fun b o e=>bD (bh (aI e) I.ok.above)
 have neC:∀ b o,X.s_0.heap.get? b=some o->b∉X.ex->b∉ch:=fun b o e hx hb=>by
  rcases (hch b hb).1 with z|z
  ·exact hx z
  ·exact absurd (bh (aI e) z) (dZ _)
 have cellK:∀ x c,X.env.cells.lookup x=some c->∀ v,s.heap.IsCell c v->h'.IsCell c v:=fun x c e v ⟨o,ho,hd⟩=>by
  have nch:c∉ch:=fun z=>(hch c z).2.2.1 x c e rfl
  by_cases hc:c∈X.fs
  ·obtain ⟨sl,q⟩:=slot c o (I.cne x c e) hc nch ho (I.oF x c e)
   exact ⟨_,q,hd⟩
  ·exact ⟨o,keep c o (I.cne x c e) hc nch ho (I.oF x c e),hd⟩
 refine ⟨I.ok,I.os,hg,⟨fun b o e n hb hx => ?_,fun b o e n hb hx => ?_,fun b o e n hx => ?_,fun b o e hx => ?_,fun b xs e=>Di b xs (I.base.Di b xs e),fun b o xs e=>z0 b o xs (I.base.z0 b o xs e),fun b ps e => ?_⟩,?_,fun x c e => ?_,?_,fun x c e => ?_,fun p hp => ?_,hok,I.len⟩
 ·exact keep b o (neL b o e) hb (neC b o e hx) (I.base.keep b o e n hb hx) (I.base.free b o e n hx)
 ·obtain ⟨sl,e1⟩:=I.base.slot b o e n hb hx
  obtain ⟨sl',e2⟩:=slot b _ (neL b o e) hb (neC b o e hx) e1 (I.base.free b o e n hx)
  exact ⟨sl',e2⟩
 ·obtain ⟨o',e1⟩:=I.base.there b o e hx
  exact free b o' (neC b o e hx) e1 (I.base.free b o e n hx)
 ·obtain ⟨o',e1⟩:=I.base.there b o e hx
  exact there b o' (neC b o e hx) e1
 ·obtain ⟨m1,e1⟩:=I.base.Dv b ps e
  obtain ⟨m2,e2⟩:=Dv b _ e1
  exact ⟨m1++m2,by rw [e2,Array.append_assoc]⟩
 ·obtain ⟨m,hn,hl⟩:=I.loc
  refine ⟨m,ns m hn,fun i x v e1 e2 e3 => ?_⟩
  obtain ⟨u,r,l⟩:=hl i x v e1 e2 e3
  refine ⟨u,r,?_⟩
  rcases l with l|⟨k,c,e,z⟩
  ·exact .inl l
  ·exact .inr ⟨k,c,e,cellK x c e _ z⟩
 ·obtain ⟨v,z⟩:=I.cell x c e
  exact ⟨v,cellK x c e v z⟩
 ·obtain ⟨m,⟨o,_,_,ho,_⟩,_⟩:=I.loc
  exact free _ o (fun z=>(hch _ z).2.1 rfl) ho I.free
 ·obtain ⟨v,o,ho,hd⟩:=I.cell x c e
  exact free c o (fun z=>(hch c z).2.2.1 x c e rfl) ho (I.oF x c e)
 ·obtain ⟨e,n,ne,nf,d⟩:=I.pin p hp
  have nch:p.1∉ch:=fun z=>(hch p.1 z).2.2.2 p hp rfl
  exact ⟨keep p.1 p.2 ne nf nch e n,free p.1 p.2 nch e n,ne,nf,d⟩
theorem Inv.un {t':Nat} (I:Inv X pins σ H s) (u:Un X.fs [] H H' s.heap h') (hok:HOk X.prog X.w H' h'):Inv X pins σ H' {s with heap:=h',toks:=t' }:=by
 obtain ⟨m,⟨o,es,ep,ho,r⟩,_⟩:=id I.loc
 obtain ⟨sl,hL⟩:=u.any ho I.free (by simp)
 exact I.step (g':=s.gens) (d':=s.drawn) (ch:=[]) (fun _ z=>nomatch z) (fun b o _ hb _ e n=>u.keep b o e n hb (by simp)) (fun b o _ hb _ e n=>u.slot b o e n hb (by simp)) (fun b o _ e n=>u.free b o e n (by simp)) (fun b o _ e=>u.there b o e (by simp)) u.Di u.z0 u.Dv (fun m' hm=>by
  obtain ⟨o',es',ep',ho',r'⟩:=hm
  rw [ho] at ho';cases ho'
  exact ⟨_,es',ep',hL,r'⟩) hok I.bare
theorem Inv.call {g':Array GenState} {t':Nat} {d':Drawn} {ch:List Addr} (I:Inv X pins σ H s) (u:Un (frs X.stack) ch H H' s.heap h') (hok:HOk X.prog X.w H' h') (hg:AllBare g')
 (hch:∀ b∈ch,(b∈X.ex\/X.s_0.heap.objs.size<=b)/\b≠X.env.locals/\(∀ x c,X.env.cells.lookup x=some c->c≠b)/\∀ p∈X.pn++pins,p.1≠b) :
 Inv X pins σ H' {s with heap:=h',gens:=g',drawn:=d',toks:=t' }:=by
 obtain ⟨m,⟨o,es,ep,ho,r⟩,_⟩:=id I.loc
 obtain ⟨sl,hL⟩:=u.any ho I.free fun z=>(hch _ z).2.1 rfl
 exact I.step (ch:=ch) hch (fun b o hL hb hc e n=>u.keep b o e n (fun z=>(ae.mp (I.GR b z)).elim hL hb) hc) (fun b o _ _ hc e n=>u.any e n hc) (fun b o hc e n=>u.free b o e n hc) (fun b o hc e=>u.there b o e hc) u.Di u.z0 u.Dv (fun m' hm=>by
  obtain ⟨o',es',ep',ho',r'⟩:=hm
  rw [ho] at ho';cases ho'
  exact ⟨_,es',ep',hL,r'⟩) hok hg
theorem Inv.turned {t':Nat} {it:Addr} (I:Inv X pins σ H s) (k:∀ b o,b≠it->s.heap.get? b=some o->h'.get? b=some o) (hn:H it=none) (hL:it≠X.env.locals)
 (h1:it∈X.ex\/X.s_0.heap.objs.size<=it) (h2:∀ x c,X.env.cells.lookup x=some c->c≠it) (h3:∀ p∈X.pn++pins,p.1≠it):Inv X pins σ H {s with heap:=h',toks:=t' }:=by
 have nit:∀ b u,H b=some u->b≠it:=fun b u e z=>by rw [z,hn] at e;cases e
 refine I.step (g':=s.gens) (d':=s.drawn) (ch:=[it]) (fun b hb => ?_) (fun b o _ _ hc e _=>k b o (fun z=>hc (by simp [z])) e) (fun b o _ _ hc e _=>⟨o.slots,k b o (fun z=>hc (by simp [z])) e⟩) (fun _ _ _ _ n=>n)
  (fun b o hc e=>⟨o,k b o (fun z=>hc (by simp [z])) e⟩) (fun _ _ e=>e) (fun _ _ _ e=>e) (fun b ps e=>⟨#[],by rw [e];simp⟩) (fun m hm => ?_) (fun b u e => ?_) I.bare
 ·have e:b=it:=by simpa using hb
  subst e
  exact ⟨h1,hL,h2,h3⟩
 ·obtain ⟨o,es,ep,ho,r⟩:=hm
  exact ⟨o,es,ep,k _ o (Ne.symm hL) ho,r⟩
 ·refine (I.hok b u e).oR (fun c v hc q=>k c v ?_ q) (fun _ q=>q) fun _ _ q=>q
  rcases hc with z|z
  ·rw [z];exact nit b u e
  ·exact nit c _ z
theorem Inv.tok (I:Inv X pins σ H s) (t:Nat):Inv X pins σ H {s with toks:=t}:=I.un (h':=s.heap) (t':=t) Un.refl I.hok
theorem Inv.kept {t':Nat} (I:Inv X pins σ H s) (k:∀ b u,s.heap.get? b=some u->h'.get? b=some u):Inv X pins σ H {s with heap:=h',toks:=t' }:=I.un (Un.kept k) (I.hok.kept k)
theorem Inv.laid {a:Addr} {o:HO} {t':Nat} (I:Inv X pins σ H s) (k:∀ b u,s.heap.get? b=some u->h'.get? b=some u) (hp:s.heap.objs.size<=a) (new:fB X.prog X.w (upd H a o) h' a o) :
 Inv X pins σ (upd H a o) {s with heap:=h',toks:=t' }:=I.un (Un.laid k hp (I.hok.fresh hp)) (I.hok.laid k hp new)
theorem Inv.write {x e:Addr} {o:HO} {t':Nat} (I:Inv X pins σ H s) (mu:Mut (H x)) (he:e=x\/H e=some (.own x)) (k:∀ b u,b≠e->s.heap.get? b=some u->h'.get? b=some u) (heo:∃ u,h'.get? e=some u)
 (new:fB X.prog X.w (upd H x o) h' x o):Inv X pins σ (upd H x o) {s with heap:=h',toks:=t' }:=I.un (Un.write mu he k heo) (I.hok.write mu he k heo new)
theorem Inv.weak {σ':List (Option V)} (I:Inv X pins σ H s) (hl : σ'.length = σ.length) (w:∀ (i:Nat) v,σ'[i]? = some (some v) -> σ[i]? = some (some v)):Inv X pins σ' H s :=
 ⟨I.ok,I.os,I.bare,I.base,let ⟨m,hn,hl'⟩:=I.loc;⟨m,hn,fun i x v e1 e2 e3=>hl' i x v e1 (w i v e2) e3⟩,I.cell,I.free,I.oF,I.pin,I.hok,hl.trans I.len⟩
theorem Inv.Iw {NY:List (Addr×Obj)} (I:Inv X pins σ H s) (h:∀ p∈NY,s.heap.get? p.1=some p.2/\H p.1=none/\p.1≠X.env.locals/\p.1∉X.fs/\∀ v,p.2.data ≠ .cell v):Inv X NY σ H s :=
 ⟨I.ok,I.os,I.bare,I.base,I.loc,I.cell,I.free,I.oF,fun p hp=>(aQ.mp hp).elim (fun z=>I.pin p (List.mem_append_left _ z)) (h p),I.hok,I.len⟩
theorem zI {N:List Str} (hN:N.Nodup) {i j:Nat} {x:Str} (a:N[i]? = some x) (b:N[j]? = some x):i=j:=by
 obtain ⟨h1,e1⟩:=ak.mp a
 obtain ⟨h2,e2⟩:=ak.mp b
 exact (List.getElem_inj hN).mp (e1.trans e2.symm)
theorem Jx {M:Model} {A:Around} {E:Value->Shared->Prop} {i:Nat} {x:Str} {v:V} {u:Value} {Q:Unit->Shared->Prop} (I:Inv X pins σ H s) (hN:X.N.Nodup) (hi:X.N[i]? = some x) (hx:Loc X.env.scope x) (r:RelV v u)
 (h:∀ s',Inv X pins (σ.set i (some v)) H s'->(∃ a,Heap.SameBut a s.heap s'.heap/\(a=X.env.locals\/X.env.cells.lookup x=some a))->Q () s') (hf:X.fn x=true\/X.env.scope.names.lookup x=some .local:=by first|exact .inl rfl|exact .inr rfl|assumption):wpAny M A (storeName X.env x u) Q E s:=by
 obtain ⟨m,hn,hl⟩:=id I.loc
 have Tn:(X.env.scope.kind == .class || (X.env.scope.kind == .module&&X.env.locals != X.env.globals))=false:=by rw [I.ok.kind];rfl
 have hiσ : i < σ.length:=by rw [I.len];exact (ak.mp hi).1
 have cne:=I.cne
 have tracked:∀ {a:Addr} {h':Heap},(∃ o,s.heap.get? a=some o/\H a=none)->Heap.SameBut a s.heap h'->HOk X.prog X.w H h':=fun {a h'} ha hs b ob e=>by
  obtain ⟨_,_,CW⟩:=ha
  refine (I.hok b ob e).oR (fun c w' hc q=>(hs.2 c ?_).trans q) (fun _ q=>q) fun _ _ q=>q
  rintro rfl
  rcases hc with rfl|hc
  ·rw [CW] at e;cases e
  ·rw [CW] at hc;cases hc
 rcases hx with hk|hk
 ·refine wpAny_storeName_local hk hn (fun h' hn' hs => ?_) Tn
  obtain ⟨oL,_,_,hoL,_⟩:=id hn
  refine h _ ⟨I.ok,I.os,I.bare,⟨fun b o e n hb hx => ?_,fun b o e n hb hx => ?_,I.base.free,fun b o e hx => ?_,I.base.Di,I.base.z0,I.base.Dv⟩,⟨_,hn',fun j y v' e1 e2 e3 => ?_⟩,fun y c e => ?_,I.free,I.oF,fun p hp => ?_,tracked ⟨oL,hoL,I.free⟩ hs,by simpa using I.len⟩ ⟨_,hs,.inl rfl⟩
  ·exact (hs.2 b (bD (bh (aI e) I.ok.above))).trans (I.base.keep b o e n hb hx)
  ·obtain ⟨sl,e1⟩:=I.base.slot b o e n hb hx
   exact ⟨sl,(hs.2 b (bD (bh (aI e) I.ok.above))).trans e1⟩
  ·obtain ⟨o',e1⟩:=I.base.there b o e hx
   exact ⟨o',(hs.2 b (bD (bh (aI e) I.ok.above))).trans e1⟩
  ·by_cases hj:j=i
   ·subst hj
    rw [hi] at e1;cases e1
    rw [List.getElem?_set_self hiσ] at e2
    cases e2
    exact ⟨u,r,.inl ⟨hk,by simp⟩⟩
   ·rw [List.getElem?_set_ne (Ne.symm hj)] at e2
    obtain ⟨u',r',q⟩:=hl j y v' e1 e2 e3
    refine ⟨u',r',?_⟩
    rcases q with ⟨k,e⟩|⟨k,c,e,z⟩
    ·refine .inl ⟨k,?_⟩
     have:y≠x:=fun e=>hj (zI hN e1 (e ▸ hi))
     simp [this,e]
    ·exact .inr ⟨k,c,e,z.sameBut hs (cne y c e)⟩
  ·obtain ⟨w',z⟩:=I.cell y c e
   exact ⟨w',z.sameBut hs (cne y c e)⟩
  ·obtain ⟨e,n,ne,nf,d⟩:=I.pin p hp
   exact ⟨(hs.2 p.1 ne).trans e,n,ne,nf,d⟩
 ·have hfn:X.fn x=true:=by
   rcases hf with z|z
   ·exact z
   ·rw [z] at hk;cases hk
  obtain ⟨c,hc⟩:=I.ok.has x (.inl hk)
  obtain ⟨w',z⟩:=I.cell x c hc
  refine wpAny_storeName_cell I.ok.kind hk hc z (fun h' hc' hs => ?_)
  obtain ⟨oc,hoc,SS⟩:=id z
  refine h {s with heap:=h' } ⟨I.ok,I.os,I.bare,⟨fun b o e n hb hx => ?_,fun b o e n hb hx => ?_,I.base.free,fun b o e hx => ?_,I.base.Di,I.base.z0,I.base.Dv⟩,⟨m,hn.sameBut hs (Ne.symm (cne x c hc)),fun j y v' e1 e2 e3 => ?_⟩,fun y c' e => ?_,I.free,I.oF,fun p hp => ?_,tracked ⟨oc,hoc,I.oF x c hc⟩ hs,by simpa using I.len⟩ ⟨c,hs,.inr hc⟩
  ·exact (hs.2 b (bD (bh (aI e) (I.ok.cab x c hfn hc)))).trans (I.base.keep b o e n hb hx)
  ·obtain ⟨sl,e1⟩:=I.base.slot b o e n hb hx
   exact ⟨sl,(hs.2 b (bD (bh (aI e) (I.ok.cab x c hfn hc)))).trans e1⟩
  ·obtain ⟨o',e1⟩:=I.base.there b o e hx
   exact ⟨o',(hs.2 b (bD (bh (aI e) (I.ok.cab x c hfn hc)))).trans e1⟩
  ·by_cases hj:j=i
   ·subst hj
    rw [hi] at e1;cases e1
    rw [List.getElem?_set_self hiσ] at e2
    cases e2
    exact ⟨u,r,.inr ⟨.inl hk,c,hc,hc'⟩⟩
   ·rw [List.getElem?_set_ne (Ne.symm hj)] at e2
    obtain ⟨u',r',q⟩:=hl j y v' e1 e2 e3
    refine ⟨u',r',?_⟩
    rcases q with q|⟨k,c',e,z'⟩
    ·exact .inl q
    ·refine .inr ⟨k,c',e,z'.sameBut hs ?_⟩
     rintro rfl
     exact hj (zI hN e1 (I.ok.inj _ _ _ e hc ▸ hi))
  ·by_cases hcc:c'=c
   ·subst hcc;exact ⟨_,hc'⟩
   ·obtain ⟨w2,z2⟩:=I.cell y c' e
    exact ⟨w2,z2.sameBut hs hcc⟩
  ·obtain ⟨e,n,ne,nf,d⟩:=I.pin p hp
   refine ⟨(hs.2 p.1 ?_).trans e,n,ne,nf,d⟩
   intro q
   rw [q,hoc] at e
   have q':oc=p.2:=ax e
   exact d w' (by rw [<-q'];exact SS)
theorem yX {M:Model} {A:Around} {E:Value->Shared->Prop} {i:Nat} {x:Str} {v:V} {u:Value} {Q:Unit->Shared->Prop} (I:Inv X pins σ H s) (hN:X.N.Nodup) (hi:X.N[i]? = some x) (hx:Loc X.env.scope x) (r:RelV v u)
 (h:∀ s',Inv X pins (σ.set i (some v)) H s'->Q () s') (hf:X.fn x=true\/X.env.scope.names.lookup x=some .local:=by first|exact .inl rfl|exact .inr rfl|assumption):wpAny M A (storeName X.env x u) Q E s :=
 Jx I hN hi hx r (fun s' I' _=>h s' I') hf
theorem Inv.RM {s':Shared} {ch:List Addr} (I:Inv X pins σ H s) (ho:s'.os=s.os) (u:Un (frs X.stack) ch H H' s.heap s'.heap) (hok:HOk X.prog X.w H' s'.heap) (hg:AllBare s'.gens)
 (hch:∀ b∈ch,(b∈X.ex\/X.s_0.heap.objs.size<=b)/\b≠X.env.locals/\(∀ x c,X.env.cells.lookup x=some c->c≠b)/\∀ p∈X.pn++pins,p.1≠b):Inv X pins σ H' s':=by
 obtain ⟨h',g',d',t',o'⟩:=s'
 have e:o'=s.os:=ho
 subst e
 exact I.call (g':=g') (t':=t') (d':=d') u hok hg hch
end
abbrev XK:=Value->Option Addr->Hp->Prop
abbrev St:=List (Option V)
abbrev VK:=V->Hp->Prop
abbrev TE:=St->Hp->VK->Prop
abbrev TT:=St->Hp->(Bool->Hp->Prop)->Prop
abbrev TA:=St->Hp->(List V->Hp->Prop)->Prop
structure Ends where
 nx:St->Hp->Prop
 rt:VK
 bk:St->Hp->Prop:=fun _ _=>False
 ct:St->Hp->Prop:=fun _ _=>False
abbrev TS:=Ends->St->Hp->Prop
def EP (X:Cx) (pins:List (Addr×Obj)) (σ : St) (Q:VK) (u:Value) (s':Shared):Prop:=∃ v H',Inv X pins σ H' s'/\RelV v u/\Q v H'
def TP (X:Cx) (pins:List (Addr×Obj)) (σ : St) (Q:Bool->Hp->Prop) (b:Bool) (s':Shared):Prop:=∃ H',Inv X pins σ H' s'/\Q b H'
def AP (X:Cx) (pins:List (Addr×Obj)) (σ : St) (Q:List V->Hp->Prop) (us:List Value) (s':Shared):Prop:=∃ vs H',Inv X pins σ H' s'/\Vals vs us/\Q vs H'
def SP (X:Cx) (pins:List (Addr×Obj)) (D:Ends) (f:Flow) (s':Shared):Prop :=
 match f with
 |.next=>∃ σ' H',Inv X pins σ' H' s'/\D.nx σ' H'
 |.brk=>∃ σ' H',Inv X pins σ' H' s'/\D.bk σ' H'
 |.cont=>∃ σ' H',Inv X pins σ' H' s'/\D.ct σ' H'
 |.ret u=>∃ v σ' H',Inv X pins σ' H' s'/\RelV v u/\D.rt v H'
def PE (X:Cx) (e:Expr) (t:TE):Prop :=
 ∀ (pins:List (Addr×Obj)) (s:Shared) (σ : St) (H:Hp) (Q:VK),Inv X pins σ H s->t σ H Q->wpAny (model X.prog X.w) X.A (eval e X.env) (EP X pins σ Q) X.xe s
def PT (X:Cx) (e:Expr) (t:TT):Prop :=
 ∀ (pins:List (Addr×Obj)) (s:Shared) (σ : St) (H:Hp) (Q:Bool->Hp->Prop),Inv X pins σ H s->t σ H Q->wpAny (model X.prog X.w) X.A (isTrue e X.env (eval e X.env)) (TP X pins σ Q) X.xe s
def PW (X:Cx) (e:Expr) (t:TT):Prop :=
 ∀ (whole:Sem Value) (pins:List (Addr×Obj)) (s:Shared) (σ : St) (H:Hp) (Q:Bool->Hp->Prop),Inv X pins σ H s->t σ H Q->wpAny (model X.prog X.w) X.A (isTrue e X.env whole) (TP X pins σ Q) X.xe s
theorem PW.pt {X:Cx} {e:Expr} {t:TT} (h:PW X e t):PT X e t:=h _
def PA (X:Cx) (es:List Expr) (t:TA):Prop :=
 ∀ (pos:Pos) (pins:List (Addr×Obj)) (s:Shared) (σ : St) (H:Hp) (Q:List V->Hp->Prop),Inv X pins σ H s->t σ H Q->wpAny (model X.prog X.w) X.A (spliced (backTo pos (starEach es X.env))) (AP X pins σ Q) X.xe s
def PS (X:Cx) (st:Stmt) (t:TS):Prop :=
 ∀ (pins:List (Addr×Obj)) (s:Shared) (σ : St) (H:Hp) (D:Ends),Inv X pins σ H s->t D σ H->wpAny (model X.prog X.w) X.A (exec st X.env) (SP X pins D) X.xe s
def PSs (X:Cx) (st:List Stmt) (t:TS):Prop :=
 ∀ (pins:List (Addr×Obj)) (s:Shared) (σ : St) (H:Hp) (D:Ends),Inv X pins σ H s->t D σ H->wpAny (model X.prog X.w) X.A (execs st X.env) (SP X pins D) X.xe s
theorem thn {α : Type} {t:Sem α} {Q Q' : α -> Shared->Prop} {M:Model} {A:Around} {E:Value->Shared->Prop} {s:Shared} (h:wpAny M A t Q E s) (hQ:∀ a s,Q a s->Q' a s):wpAny M A t Q' E s:=wpAny_mono h hQ fun _ _ x=>x
end L2
namespace L2
open PySem PySem.Spec PyProof.Rows
section
variable {X:Cx}
theorem bin {a b:Expr} {ta tb:TE} (ha:PE X a ta) (hb:PE X b tb) {pins:List (Addr×Obj)} {s:Shared} {σ : St} {H:Hp} {R:V->V->Hp->Prop} (I:Inv X pins σ H s) (h:ta σ H fun x H1=>tb σ H1 fun y H2=>R x y H2)
 {α : Type} {Q : α -> Shared->Prop} {f:Value->Value->Sem α}
 (hf:∀ v u s2 x y H2,Inv X pins σ H2 s2->RelV x v->RelV y u->R x y H2->wpAny (model X.prog X.w) X.A (f v u) Q X.xe s2) :
 wpAny (model X.prog X.w) X.A (eval a X.env) (fun v s₁ => wpAny (model X.prog X.w) X.A (eval b X.env) (fun u s₂ => wpAny (model X.prog X.w) X.A (f v u) Q X.xe s₂) X.xe s₁) X.xe s:=by
 refine thn (ha pins s σ H _ I h) fun v s1 ⟨x,H1,I1,r1,q1⟩ => ?_
 refine thn (hb pins s1 σ H1 _ I1 q1) fun u s2 ⟨y,H2,I2,r2,q2⟩ => ?_
 exact hf v u s2 x y H2 I2 r1 r2 q2
def af (i:Nat):TE:=fun σ H Q=>∃ v,σ[i]? = some (some v)/\Q v H
def tC (v:V):TE:=fun _ H Q=>Q v H
theorem O5 {i:Nat} {x:Str} {pos:Pos} (hN:X.N[i]? = some x) (hv:Vis X.env.scope x) (hd:(x==("__debug__":Str))=false:=by decide) (hcd:(x==("__classdict__":Str))=false:=by decide):PE X (.Name x pos) (af i):=by
 intro pins s σ H Q I h
 obtain ⟨v,e,h⟩:=h
 obtain ⟨m,hn,hl⟩:=I.loc
 obtain ⟨u,r,l⟩:=hl i x v hN e hv
 have fin:EP X pins σ Q u s:=⟨v,H,I,r,h⟩
 rcases l with ⟨hk,hm⟩|⟨hk,c,hc,IT⟩
 ·exact wpAny_Name (wpAny_loadName_local I.ok.kind hk hn hm fin) hd
 ·rcases hk with hk|hk
  ·exact wpAny_Name (wpAny_loadName_cell I.ok.kind hk hc IT fin) hd
  ·exact wpAny_Name (wpAny_loadName_free I.ok.kind hk hc IT fin hcd) hd
theorem ao {i j pos}:PE X (.Constant (.int i) j pos) (tC (.int i)):=fun _ _ _ H _ I h=>wpAny_Constant_int ⟨.int i,H,I.tok _,⟨_,rfl⟩,h⟩
theorem zF {b j pos}:PE X (.Constant (.bool b) j pos) (tC (.bl b)):=fun _ _ _ H _ I h=>Constant_bool ⟨.bl b,H,I,rfl,h⟩
theorem tD {j pos}:PE X (.Constant .none j pos) (tC .non):=fun _ _ _ H _ I h=>Constant_none ⟨.non,H,I,rfl,h⟩
def Gl (X:Cx) (x:Str):Prop:=X.env.kindOf x=some .globalImplicit
theorem yI {E:Value->Shared->Prop} {pins:List (Addr×Obj)} {s:Shared} {σ : St} {H:Hp} {x:Str} {u:Value} {pos:Pos} {Q:Value->Shared->Prop} (I:Inv X pins σ H s) (hg:Gl X x) (hm:X.mg x=some u) (h:Q u s)
 (hd:(x==("__debug__":Str))=false:=by decide):wpAny (model X.prog X.w) X.A (eval (.Name x pos) X.env) Q E s :=
 Calls.Name_function_global I.ok.kind hg (Calls.loadGlobal_global (by rw [I.ok.glob];exact I.mod.glob.keeps I.bk) hm h) hd
theorem qC {E:Value->Shared->Prop} {pins:List (Addr×Obj)} {s:Shared} {σ : St} {H:Hp} {x:Str} {u:Value} {pos:Pos} {Q:Value->Shared->Prop} (I:Inv X pins σ H s) (hg:Gl X x) (hm:X.mg x=none) (hv:bootBuiltins x=some u) (h:Q u s)
 (hn:x≠"__name__":=by decide) (hd:(x==("__debug__":Str))=false:=by decide):wpAny (model X.prog X.w) X.A (eval (.Name x pos) X.env) Q E s:=by
 obtain ⟨mb,h1,h2⟩:=I.mod.blt
 exact Calls.Name_function_global I.ok.kind hg (Calls.loadGlobal_builtin (by rw [I.ok.glob];exact I.mod.glob.keeps I.bk) hm (by rw [I.ok.blt];exact h1.keeps I.bk) ((h2 x hn).trans hv) h) hd
theorem IA {x:Str} {v:V} {u:Value} {pos:Pos} (hg:Gl X x) (hm:X.mg x=some u) (r:RelV v u) (hd:(x==("__debug__":Str))=false:=by decide):PE X (.Name x pos) (tC v) :=
 fun _ _ _ H _ I h=>yI I hg hm ⟨v,H,I,r,h⟩ hd
variable {a b:Expr} {ta tb:TE} {pos:Pos}
def PC (X:Cx) (op:CmpOp) (a b:Expr) (t:TE):Prop :=
 ∀ (pins:List (Addr×Obj)) (s:Shared) (σ : St) (H:Hp) (Q:VK),Inv X pins σ H s->t σ H Q ->
  wpAny (model X.prog X.w) X.A (eval a X.env) (fun v s₁ => wpAny (model X.prog X.w) X.A (eval b X.env) (fun u s₂ => wpAny (model X.prog X.w) X.A (compareOp op v u) (EP X pins σ Q) X.xe s₂) X.xe s₁) X.xe s
theorem FL (b:Expr) {op:CmpOp} (h:op ≠ .In) (h2:op ≠ .NotIn):behindInMarks op b=false:=by
 have e1:(op==CmpOp.In)=false:=by cases op<;>first|rfl|exact absurd rfl h
 have e2:(op==CmpOp.NotIn)=false:=by cases op<;>first|rfl|exact absurd rfl h2
 cases b<;>simp [behindInMarks,e1,e2]
def OO (ta:TE):TE:=fun σ H Q=>ta σ H fun x H1=>Q (.bl (decide (x=.non))) H1
theorem RelV.Lm {x:V} {v:Value} (r:RelV x v):(v==Value.none)=decide (x=.non):=by
 cases x with
 |non=>cases r;rfl
 |bl _=>cases r;rfl
 |int _=>obtain ⟨t,rfl⟩:=r;rfl
 |str _=>obtain ⟨t,rfl⟩:=r;rfl
 |byt _=>obtain ⟨t,rfl⟩:=r;rfl
 |flt _=>obtain ⟨t,rfl⟩:=r;rfl
 |ref _=>cases r;rfl
 |ty _=>cases r;rfl
theorem O8 {j pos'} (ha:PE X a ta):PC X .Is a (.Constant .none j pos') (OO ta):=by
 intro pins s σ H Q I h
 refine thn (ha pins s σ H _ I h) fun v s1 ⟨x,H1,I1,r1,q1⟩ => ?_
 exact Constant_none (is_none_gen ⟨.bl _,H1,I1,by rw [r1.Lm];rfl,q1⟩)
def tB (t:TE):TT:=fun σ H Q=>t σ H fun x H1=>∃ c,x=.bl c/\Q c H1
theorem O7 {op:CmpOp} {t:TE} (h:PC X op a b t) (h1:behindInMarks op b=false:=by first|exact FL _ (by decide) (by decide)|rfl):PE X (.Compare a [op] [b] pos) t:=fun pins s σ H Q I hw=>wpAny_Compare1 (h pins s σ H Q I hw) h1
theorem jU {op:CmpOp} {t:TE} (h:PC X op a b t) (h1:behindInMarks op b=false:=by first|exact FL _ (by decide) (by decide)|rfl):PT X (.Compare a [op] [b] pos) (tB t):=by
 intro pins s σ H Q I hw
 refine wpAny_isTrue_Compare1 (thn (h pins s σ H _ I hw) fun v s1 h1=>thn h1 fun u s2 h2=>thn h2 fun c s3 ⟨x,H1,I1,r1,q1⟩ => ?_) h1
 obtain ⟨d,rfl,q⟩:=q1
 cases r1
 exact wpAny_truthy_bool ⟨H1,I1,q⟩
theorem d4 {e:Expr} {t:TE} (h:PE X e t) (he:∀ whole,isTrue e X.env whole=(do let v <-whole;standAt e.pos;holding [v] (truthy v)):=by intro _;rfl):PT X e (tB t):=by
 intro pins s σ H Q I hw
 refine isTrue_plain (thn (h pins s σ H _ I hw) fun v s1 ⟨x,H1,I1,r1,q1⟩ => ?_) (he _)
 obtain ⟨d,rfl,q⟩:=q1
 cases r1
 exact wpAny_truthy_bool ⟨H1,I1,q⟩
variable {tA tB':TT} {rest:List Expr}
def vN (t u:TT):TT:=fun σ H Q=>t σ H fun c H1=>if c=true then u σ H1 Q else Q false H1
def tOr (t u:TT):TT:=fun σ H Q=>t σ H fun c H1=>if c=true then Q true H1 else u σ H1 Q
def nB (t:TT):TT:=fun σ H Q=>t σ H fun c H1=>Q (!c) H1
theorem kE (ha:PT X a tA):PW X (.BoolOp .And [a] pos) tA:=by
 intro wh pins s σ H Q I h
 refine isTrue_and (thn (ha pins s σ H Q I h) fun c s1 e => ?_)
 cases c with
 |true=>exact isTrue_and_nil e
 |false=>exact e
theorem mv (ha:PT X a tA):PW X (.BoolOp .Or [a] pos) tA:=by
 intro wh pins s σ H Q I h
 refine isTrue_or (thn (ha pins s σ H Q I h) fun c s1 e => ?_)
 cases c with
 |false=>exact isTrue_or_nil e
 |true=>exact e
theorem mw (ha:PT X a tA) (hb:PW X (.BoolOp .And (b::rest) pos) tB'):PW X (.BoolOp .And (a::b::rest) pos) (vN tA tB'):=by
 intro wh pins s σ H Q I h
 refine isTrue_and (thn (ha pins s σ H _ I h) fun c s1 ⟨H1,I1,q1⟩ => ?_)
 cases c with
 |true=>exact hb wh pins s1 σ H1 Q I1 q1
 |false=>exact ⟨H1,I1,q1⟩
theorem qw (ha:PT X a tA) (hb:PW X (.BoolOp .Or (b::rest) pos) tB'):PW X (.BoolOp .Or (a::b::rest) pos) (tOr tA tB'):=by
 intro wh pins s σ H Q I h
 refine isTrue_or (thn (ha pins s σ H _ I h) fun c s1 ⟨H1,I1,q1⟩ => ?_)
 cases c with
 |true=>exact ⟨H1,I1,q1⟩
 |false=>exact hb wh pins s1 σ H1 Q I1 q1
theorem f6 (ha:PT X a tA):PT X (.UnaryOp .Not a pos) (nB tA):=by
 intro pins s σ H Q I h
 exact isTrue_not (ha pins s σ H (fun c H1=>Q (!c) H1) I h)
def lq (ta tb:TE):TE:=fun σ H Q=>ta σ H fun x H1=>∃ c,x=.bl c/\if c=true then tb σ H1 Q else Q (.bl false) H1
def DJ (ta tb:TE):TE:=fun σ H Q=>ta σ H fun x H1=>∃ c,x=.bl c/\if c=true then Q (.bl true) H1 else tb σ H1 Q
theorem jV {op} {t:TE} (h:PE X a t):PE X (.BoolOp op [a] pos) t:=fun pins s σ H Q I hw=>BoolOp_one (h pins s σ H Q I hw)
theorem nG (ha:PE X a ta) (hb:PE X (.BoolOp .And (b::rest) pos) tb):PE X (.BoolOp .And (a::b::rest) pos) (lq ta tb):=by
 intro pins s σ H Q I h
 refine BoolOp_and (thn (ha pins s σ H _ I h) fun v s1 ⟨x,H1,I1,r1,q1⟩ => ?_)
 obtain ⟨c,rfl,q1⟩:=q1
 cases r1
 refine wpAny_truthy_bool ?_
 cases c with
 |true=>exact hb pins s1 σ H1 Q I1 q1
 |false=>exact ⟨.bl false,H1,I1,rfl,q1⟩
theorem zE (ha:PE X a ta) (hb:PE X (.BoolOp .Or (b::rest) pos) tb):PE X (.BoolOp .Or (a::b::rest) pos) (DJ ta tb):=by
 intro pins s σ H Q I h
 refine BoolOp_or (thn (ha pins s σ H _ I h) fun v s1 ⟨x,H1,I1,r1,q1⟩ => ?_)
 obtain ⟨c,rfl,q1⟩:=q1
 cases r1
 refine wpAny_truthy_bool ?_
 cases c with
 |false=>exact hb pins s1 σ H1 Q I1 q1
 |true=>exact ⟨.bl true,H1,I1,rfl,q1⟩
def tIf (t:TT) (ta tb:TE):TE:=fun σ H Q=>t σ H fun c H1=>if c=true then ta σ H1 Q else tb σ H1 Q
theorem gM {c:Expr} (hc:PT X c tA) (ha:PE X a ta) (hb:PE X b tb):PE X (.IfExp c a b pos) (tIf tA ta tb):=by
 intro pins s σ H Q I h
 refine wpAny_IfExp (thn (hc pins s σ H _ I h) fun d s1 ⟨H1,I1,q1⟩ => ?_)
 cases d with
 |true=>exact ha pins s1 σ H1 Q I1 q1
 |false=>exact hb pins s1 σ H1 Q I1 q1
end
end L2
namespace L2
open PySem PySem.Spec PyProof.Rows
def SqL (K:Frag) (H:Hp) (a:Addr) (xs:List V):Prop :=
 Rd H a (.lst xs) \/
  ∃ (o:Obj) (its:Array Value) (n:Nat),K.lookup a=some o/\o.cls=.type "list"/\o.dict=none/\o.data=.seq its n/\its.size<=sizeLine/\Vals xs its.toList
def SqT (K:Frag) (H:Hp) (a:Addr) (xs:List V):Prop :=
 Rd H a (.tup xs) \/
  ∃ (o:Obj) (its:Array Value) (n:Nat),K.lookup a=some o/\o.cls=.type "tuple"/\o.data=.seq its n/\its.size<=sizeLine/\Vals xs its.toList
def TC:Value->Option V
 |.none=>some .non
 |.bool b=>some (.bl b)
 |.int i _=>some (.int i)
 |.str x _=>some (.str x)
 |.bytes b _=>some (.byt b)
 |.float b _=>some (.flt b)
 |.ref a=>some (.ref a)
 |.type n=>some (.ty n)
 |_=>none
theorem RelV.abs {x:V} {u:Value} (r:RelV x u):TC u=some x:=by
 cases x with
 |non=>cases r;rfl
 |bl _=>cases r;rfl
 |int _=>obtain ⟨t,rfl⟩:=r;rfl
 |str _=>obtain ⟨t,rfl⟩:=r;rfl
 |byt _=>obtain ⟨t,rfl⟩:=r;rfl
 |flt _=>obtain ⟨t,rfl⟩:=r;rfl
 |ref _=>cases r;rfl
 |ty _=>cases r;rfl
theorem RelV.inj {x y:V} {u:Value} (r:RelV x u) (q:RelV y u):x=y:=ax (r.abs.symm.trans q.abs)
theorem Vals.inj:∀ {xs ys:List V} {us:List Value},Vals xs us->Vals ys us->xs=ys
 |_,_,_,.nil,.nil=>rfl
 |_,_,_,.cons r t,.cons r' t'=>by rw [r.inj r',Vals.inj t t']
section
variable {X:Cx} {pins:List (Addr×Obj)} {σ : St} {H:Hp} {s:Shared} {a:Addr} {xs ys:List V}
theorem SqL.of {K:Frag} (h:H a=some (.lst xs)):SqL K H a xs:=.inl (.inl h)
theorem SqT.of {K:Frag} (h:H a=some (.tup xs)):SqT K H a xs:=.inl (.inl h)
theorem Inv.list (I:Inv X pins σ H s) (h:SqL X.K H a xs):∃ its:List Value,Vals xs its/\PlainL s.heap a its.toArray/\xs.length<=sizeLine:=by
 rcases h with h|⟨o,its,n,hk,hc,hd,hs,hz,r⟩
 ·obtain ⟨z,its,n,r,e⟩:=h.ok I.hok
  exact ⟨its,r,⟨_,n,e,rfl,rfl,rfl⟩,z⟩
 ·refine ⟨its.toList,r,⟨o,n,I.kIn a o hk,hc,hd,by simpa using hs⟩,?_⟩
  have e:=r.length
  simp only [Array.length_toList] at e
  omega
theorem Inv.tuple (I:Inv X pins σ H s) (h:SqT X.K H a xs):∃ its:List Value,Vals xs its/\IsTup s.heap a its.toArray/\xs.length<=sizeLine:=by
 rcases h with h|⟨o,its,n,hk,hc,hs,hz,r⟩
 ·obtain ⟨z,its,r,p⟩:=h.ok I.hok
  exact ⟨its,r,p,z⟩
 ·refine ⟨its.toList,r,⟨o,I.kIn a o hk,hc,n,by simpa using hs⟩,?_⟩
  have e:=r.length
  simp only [Array.length_toList] at e
  omega
theorem Inv.FT (I:Inv X pins σ H s) (h:SqL X.K H a xs) (h':SqL X.K H a ys):xs=ys:=by
 obtain ⟨its,r,⟨o,n,e,_,_,d⟩,_⟩:=I.list h
 obtain ⟨its',r',⟨o',n',e',_,_,d'⟩,_⟩:=I.list h'
 rw [e] at e';cases e'
 rw [d] at d'
 injection d' with d1 _
 have:its=its':=by simpa using congrArg Array.toList d1
 subst this
 exact r.inj r'
end
abbrev Cx.AV (X:Cx) (E:Value->Shared->Prop):Cx:={X with xe:=E}
abbrev Cx.nox (X:Cx):Cx:=X.AV fun _ _=>False
theorem Cx.Ok.AV {X:Cx} (ok:X.Ok) (E:Value->Shared->Prop):(X.AV E).Ok :=
 ⟨ok.mod,ok.kind,ok.glob,ok.blt,ok.above,ok.inj,ok.has,ok.cab,ok.hd,ok.frames,ok.stk,ok.exf,ok.bs,ok.bsz,ok.Ln,ok.LP,ok.yi,ok.frf⟩
theorem Cx.Ok.pY {X:Cx} {E:Value->Shared->Prop} (ok:(X.AV E).Ok):X.Ok :=
 ⟨ok.mod,ok.kind,ok.glob,ok.blt,ok.above,ok.inj,ok.has,ok.cab,ok.hd,ok.frames,ok.stk,ok.exf,ok.bs,ok.bsz,ok.Ln,ok.LP,ok.yi,ok.frf⟩
section
variable {X:Cx} {pins:List (Addr×Obj)} {σ : St} {H:Hp} {s:Shared} {E:Value->Shared->Prop}
theorem Inv.AV (I:Inv X pins σ H s) (E:Value->Shared->Prop):Inv (X.AV E) pins σ H s:=⟨I.ok.AV E,I.os,I.bare,I.base,I.loc,I.cell,I.free,I.oF,I.pin,I.hok,I.len⟩
theorem Inv.pY (I:Inv (X.AV E) pins σ H s):Inv X pins σ H s:=⟨I.ok.pY,I.os,I.bare,I.base,I.loc,I.cell,I.free,I.oF,I.pin,I.hok,I.len⟩
theorem SP.pY {D:Ends} {f:Flow} {s':Shared} (h:SP (X.AV E) pins D f s'):SP X pins D f s':=by
 cases f with
 |next=>obtain ⟨σ',H',I,q⟩:=h;exact ⟨σ',H',I.pY,q⟩
 |brk=>obtain ⟨σ',H',I,q⟩:=h;exact ⟨σ',H',I.pY,q⟩
 |cont=>obtain ⟨σ',H',I,q⟩:=h;exact ⟨σ',H',I.pY,q⟩
 |ret u=>obtain ⟨v,σ',H',I,r,q⟩:=h;exact ⟨v,σ',H',I.pY,r,q⟩
theorem PSs.nox {st:List Stmt} {t:TS} (h:PSs X.nox st t):PSs X st t:=fun pins s σ H D I hw =>
 wpAny_mono (h pins s σ H D (I.AV _) hw) (fun _ _ q=>q.pY) fun _ _ z=>False.elim z
end
section
variable {X:Cx} {st:Stmt} {rest:List Stmt} {t u:TS} {e:Expr} {te:TE} {pos:Pos}
def bI:TS:=fun D σ H=>D.nx σ H
def aM (t u:TS):TS:=fun D σ H=>t {D with nx:=u D} σ H
theorem aY:PSs X [] bI:=fun _ _ σ H _ I h=>wpAny_execs_nil ⟨σ,H,I,h⟩
theorem ai (h1:PS X st t) (h2:PSs X rest u):PSs X (st::rest) (aM t u):=by
 intro pins s σ H D I h
 refine wpAny_execs_cons (thn (h1 pins s σ H {D with nx:=u D} I h) fun f s1 q => ?_)
 cases f with
 |next =>
  obtain ⟨σ',H',I',q⟩:=q
  exact h2 pins s1 σ' H' D I' q
 |ret v=>exact q
 |brk=>exact q
 |cont=>exact q
theorem aq (h1:PS X st t):PSs X [st] t:=by
 intro pins s σ H D I h
 refine wpAny_execs_cons (thn (h1 pins s σ H D I h) fun f s1 q => ?_)
 cases f with
 |next=>exact wpAny_execs_nil q
 |ret v=>exact q
 |brk=>exact q
 |cont=>exact q
theorem Inv.quiet {pins:List (Addr×Obj)} {σ : St} {H:Hp} {s:Shared} (I:Inv X pins σ H s):interactive X.env=false:=by simp [interactive,I.ok.kind]
def dF (te:TE):TS:=fun D σ H=>te σ H fun _ H1=>D.nx σ H1
theorem cy (he:PE X e te) (hs:swapsWith e none pos.line X.env=pure false:=by rfl):PS X (.Expr e pos) (dF te):=by
 intro pins s σ H D I h
 exact wpAny_Expr_any (thn (he pins s σ H _ I h) fun v s1 ⟨x,H1,I1,r1,q1⟩=>⟨σ,H1,I1,q1⟩) I.quiet hs
def bw (te:TE):TS:=fun D σ H=>te σ H D.rt
theorem aK (he:PE X e te):PS X (.Return (some e) pos) (bw te):=by
 intro pins s σ H D I h
 exact wpAny_Return_some (thn (he pins s σ H _ I h) fun v s1 ⟨x,H1,I1,r1,q1⟩=>⟨x,σ,H1,I1,r1,q1⟩)
def cK (c:TT) (t u:TS):TS:=fun D σ H=>c σ H fun b H1=>if b=true then t D σ H1 else u D σ H1
theorem bN {c:Expr} {a b:List Stmt} {tc:TT} (hc:PT X c tc) (ha:PSs X a t) (hb:PSs X b u):PS X (.If c a b pos) (cK tc t u):=by
 intro pins s σ H D I h
 refine wpAny_If (thn (hc pins s σ H _ I h) fun d s1 ⟨H1,I1,q1⟩ => ?_)
 cases d with
 |true=>exact ha pins s1 σ H1 D I1 q1
 |false=>exact hb pins s1 σ H1 D I1 q1
end
abbrev TG:=V->St->Hp->(St->Hp->Prop)->Prop
abbrev TGs:=List V->St->Hp->(St->Hp->Prop)->Prop
def PG (X:Cx) (target:Expr) (t:TG):Prop :=
 ∀ (pins:List (Addr×Obj)) (s:Shared) (σ : St) (H:Hp) (v:V) (u:Value) (Q:St->Hp->Prop),Inv X pins σ H s->RelV v u->t v σ H Q ->
  wpAny (model X.prog X.w) X.A (assign target X.env u) (fun _ s'=>∃ σ' H',Inv X pins σ' H' s'/\Q σ' H') X.xe s
def PGs (X:Cx) (ts:List Expr) (t:TGs):Prop :=
 ∀ (pins:List (Addr×Obj)) (s:Shared) (σ : St) (H:Hp) (vs:List V) (us:List Value) (Q:St->Hp->Prop),Inv X pins σ H s->Vals vs us->t vs σ H Q ->
  wpAny (model X.prog X.w) X.A (assignInOrder ((assignEach ts X.env).map (·.2)) us) (fun _ s'=>∃ σ' H',Inv X pins σ' H' s'/\Q σ' H') X.xe s
abbrev TIp:=V->V->Hp->VK->Prop
def PIp (X:Cx) (op:Operator) (t:TIp):Prop :=
 ∀ (pins:List (Addr×Obj)) (s:Shared) (σ : St) (H:Hp) (x y:V) (v u:Value) (Q:VK),Inv X pins σ H s->RelV x v->RelV y u->t x y H Q ->
  wpAny (model X.prog X.w) X.A (inplaceOp op v u) (EP X pins σ Q) X.xe s
section
variable {X:Cx} {pos:Pos}
def aN (i:Nat):TG:=fun v σ H Q=>Q (σ.set i (some v)) H
theorem MM {i:Nat} {x:Str} (hN:X.N.Nodup) (hi:X.N[i]? = some x) (hx:Loc X.env.scope x) (hf:X.fn x=true\/X.env.scope.names.lookup x=some .local:=by first|exact .inl rfl|exact .inr rfl|assumption):PG X (.Name x pos) (aN i):=by
 intro pins s σ H v u Q I r h
 exact wpAny_assign_Name (yX I hN hi hx r (fun s' I'=>⟨_,H,I',h⟩) hf)
def yh:TGs:=fun vs σ H Q=>vs=[]/\Q σ H
def gh (t:TG) (u:TGs):TGs:=fun vs σ H Q=>∃ v r,vs=v::r/\t v σ H fun σ' H'=>u r σ' H' Q
theorem kF:PGs X [] yh:=by
 intro pins s σ H vs us Q I r h
 obtain ⟨e,h⟩:=h
 subst e
 cases r
 exact assignInOrder_nil ⟨σ,H,I,h⟩
theorem cC {e:Expr} {es:List Expr} {t:TG} {u:TGs} (h1:PG X e t) (h2:PGs X es u)
 (hs:(assignEach (e::es) X.env).map (·.2)=assign e X.env::(assignEach es X.env).map (·.2):=by rfl):PGs X (e::es) (gh t u):=by
 intro pins s σ H vs us Q I r h
 obtain ⟨v,vr,e1,h⟩:=h
 subst e1
 cases r with
 |cons r rr =>
  rw [hs]
  refine assignInOrder_cons (thn (h1 pins s σ H _ _ _ I r h) fun _ s1 ⟨σ1,H1,I1,q1⟩ => ?_)
  exact h2 pins s1 σ1 H1 _ _ Q I1 rr q1
def yg (K:Frag) (n:Nat) (t:TGs):TG:=fun v σ H Q=>∃ a xs,v=.ref a/\SqT K H a xs/\xs.length=n/\t xs σ H Q
theorem nF {es:List Expr} {k:Nat} {t:TGs} {n:Nat} (hc:X.calm=true) (h:PGs X es t)
 (hn:(assignEach es X.env).length=n:=by rfl) (hst:(assignEach es X.env).findIdx? (·.1)=none:=by rfl):PG X (.Tuple es k pos) (yg X.K n t):=by
 intro pins s σ H v u Q I r hw
 obtain ⟨a,xs,e1,hq,hl,hw⟩:=hw
 subst e1
 cases r
 obtain ⟨its,rv,ht,hz⟩:=I.tuple hq
 refine assign_Tuple_tuple (I.ok.hd hc) ht (by simp [hn,<-hl,rv.length]) hst fun h' hx => ?_
 have I1:Inv X pins σ H {s with heap:=h' }:=I.kept (t':=s.toks) fun b o e=>hx b o (bD (aI e)) e
 exact h pins _ σ H xs _ Q I1 (by simpa using rv) hw
def bQ (te:TE) (g:TG):TS:=fun D σ H=>te σ H fun x H1=>g x σ H1 D.nx
theorem O3 {i:Nat} {x:Str} {e:Expr} {te:TE} {pos':Pos} (hN:X.N.Nodup) (hi:X.N[i]? = some x) (hx:Loc X.env.scope x) (he:PE X e te) (hs:swapsWith e (some (.Name x pos')) pos.line X.env=pure false:=by rfl) (hf:X.fn x=true\/X.env.scope.names.lookup x=some .local:=by first|exact .inl rfl|exact .inr rfl|assumption) :
 PS X (.Assign [.Name x pos'] e pos) (bQ te (aN i)):=by
 intro pins s σ H D I h
 refine wpAny_Assign_Name (thn (he pins s σ H _ I h) fun v s1 ⟨y,H1,I1,r1,q1⟩ => ?_) hs
 exact yX I1 hN hi hx r1 (fun s2 I2=>⟨_,H1,I2,q1⟩) hf
def GQ (i:Nat) (te:TE) (ti:TIp):TS:=fun D σ H=>∃ x,σ[i]? = some (some x)/\te σ H fun y H1=>ti x y H1 fun z H2=>D.nx (σ.set i (some z)) H2
theorem O4 {i:Nat} {x:Str} {e:Expr} {te:TE} {op:Operator} {ti:TIp} {pos':Pos} (hN:X.N.Nodup) (hi:X.N[i]? = some x) (hx:Loc X.env.scope x) (he:PE X e te) (ho:PIp X op ti) (hf:X.fn x=true\/X.env.scope.names.lookup x=some .local:=by first|exact .inl rfl|exact .inr rfl|assumption) :
 PS X (.AugAssign (.Name x pos') op e pos) (GQ i te ti):=by
 intro pins s σ H D I h
 obtain ⟨v,e1,h⟩:=h
 obtain ⟨m,hn,hl⟩:=I.loc
 have vis:Vis X.env.scope x:=by rcases hx with k|k;exact .inl k;exact .inr (.inl k)
 obtain ⟨u,r,l⟩:=hl i x v hi e1 vis
 refine wpAny_AugAssign_Name ?_
 have go:wpAny (model X.prog X.w) X.A (eval e X.env) (fun w s₂ => wpAny (model X.prog X.w) X.A (inplaceOp op u w) (fun r s₃ => wpAny (model X.prog X.w) X.A (storeName X.env x r) (fun _=>SP X pins D .next) X.xe s₃) X.xe s₂) X.xe s:=by
  refine thn (he pins s σ H _ I h) fun w s1 ⟨y,H1,I1,r1,q1⟩ => ?_
  refine thn (ho pins s1 σ H1 v y u w _ I1 r r1 q1) fun z s2 ⟨zv,H2,I2,r2,q2⟩ => ?_
  exact yX I2 hN hi hx r2 (fun s3 I3=>⟨_,H2,I3,q2⟩) hf
 rcases l with ⟨hk,hm⟩|⟨hk,c,hc,IT⟩
 ·exact wpAny_loadName_local I.ok.kind hk hn hm go
 ·rcases hk with hk|hk
  ·exact wpAny_loadName_cell I.ok.kind hk hc IT go
  ·rcases hx with k|k
   ·have:X.env.scope.names.lookup x=some .free:=hk
    rw [k] at this;cases this
   ·have:X.env.scope.names.lookup x=some .free:=hk
    rw [k] at this;cases this
def ipI (f:Int->Int->Int):TIp:=fun x y H Q=>∃ i j,x=.int i/\y=.int j/\Q (.int (f i j)) H
theorem Ho:PIp X .Add (ipI fun i j=>i+j):=by
 intro pins s σ H x y v u Q I r1 r2 h
 obtain ⟨i,j,e1,e2,q⟩:=h
 subst e1;subst e2
 obtain ⟨t,rfl⟩:=r1
 obtain ⟨t',rfl⟩:=r2
 exact iadd_int ⟨.int _,H,I.tok _,⟨_,rfl⟩,q⟩
theorem Po:PIp X .Sub (ipI fun i j=>i-j):=by
 intro pins s σ H x y v u Q I r1 r2 h
 obtain ⟨i,j,e1,e2,q⟩:=h
 subst e1;subst e2
 obtain ⟨t,rfl⟩:=r1
 obtain ⟨t',rfl⟩:=r2
 exact isub_int ⟨.int _,H,I.tok _,⟨_,rfl⟩,q⟩
end
section
variable {X:Cx} {pos:Pos}
def sT (c:TT) (tb:TS):TS:=fun D σ H=>∃ W:Nat->St->Hp->Prop,(∃ m,W m σ H)/\∀ m σ H,W m σ H ->
 c σ H fun b H1=>if b=true then ∃ N:St->Hp->Prop,(∀ σ' H',N σ' H'->∃ m',m'<m/\W m' σ' H')/\tb {D with nx:=N,ct:=N,bk:=D.nx} σ H1 else D.nx σ H1
theorem qx {c:Expr} {body:List Stmt} {tc:TT} {tb:TS} (hp:PassesOwn (model X.prog X.w) X.A X.env X.xe) (hc:PT X c tc) (hb:PSs X body tb):PS X (.While c body [] pos) (sT tc tb):=by
 intro pins s σ H D I h
 obtain ⟨W,⟨m0,w0⟩,turn⟩:=h
 refine wpAny_While (codeAny_whileLoop (fun n s'=>∃ σ' H',Inv X pins σ' H' s'/\W n σ' H') ?_ m0 ⟨σ,H,I,w0⟩)
 rintro n s1 ⟨σ1,H1,I1,w1⟩
 refine wpAny_passesOwn hp (thn (hc pins s1 σ1 H1 _ I1 (turn n σ1 H1 w1)) fun b s2 ⟨H2,I2,q2⟩ => ?_)
 cases b with
 |true =>
  obtain ⟨N,hN,q2⟩:=q2
  rw [if_pos rfl]
  refine wpAny_passesOwn hp (thn (hb pins s2 σ1 H2 _ I2 q2) fun f s3 q3 => ?_)
  cases f with
  |next =>
   obtain ⟨σ3,H3,I3,n3⟩:=q3
   obtain ⟨m',hm,w3⟩:=hN σ3 H3 n3
   exact ⟨m',hm,σ3,H3,I3,w3⟩
  |cont =>
   obtain ⟨σ3,H3,I3,n3⟩:=q3
   obtain ⟨m',hm,w3⟩:=hN σ3 H3 n3
   exact ⟨m',hm,σ3,H3,I3,w3⟩
  |brk=>exact q3
  |ret v=>exact q3
 |false =>
  rw [if_neg aV]
  exact wpAny_execs_nil ⟨σ1,H2,I2,q2⟩
end
structure It where
 go:Nat->Hp->Prop
 yld:Nat->Hp->V->Hp->Prop
 stop:Nat->Hp->Prop
def ue (X:Cx) (pins:List (Addr×Obj)) (H:Hp) (b:Addr):Prop :=
 H b=none/\b≠X.env.locals/\b∉X.fs/\(b∈X.ex\/X.s_0.heap.objs.size<=b)/\(∀ x c,X.env.cells.lookup x=some c->c≠b)/\∀ p∈X.pn++pins,p.1≠b
theorem Inv.J9 {X:Cx} {pins:List (Addr×Obj)} {σ : St} {H H':Hp} {s:Shared} {b:Addr} (I:Inv X pins σ H s) (hb:s.heap.objs.size<=b) (hn:H' b=none):ue X pins H' b:=by
 refine ⟨hn,gG (bh I.lt hb),I.So hb,.inr (bB I.sz hb),fun x c e z => ?_,fun p hp z => ?_⟩
 ·obtain ⟨v,q⟩:=I.cell x c e
  exact absurd (bh q.lt (by rw [z];exact hb)) (dZ _)
 ·exact absurd (bh (aI (I.pin p hp).1) (by rw [z];exact hb)) (dZ _)
structure Turn (P:Program) (w:World) (K:Frag) (tg:Expr) (J:It) (fp:List Addr) (it:Addr) (tn:Nat->Heap->Prop):Prop where
 mem:it∈fp
 obj:∀ i h,tn i h->∀ b∈fp,∃ o,h.get? b=some o/\∀ v,o.data ≠ .cell v
 keep:∀ i h h',tn i h->(∀ b∈fp,∀ o,h.get? b=some o->h'.get? b=some o)->tn i h'
 item:∀ (X:Cx),X.prog=P->X.w=w->X.K=K->X.calm=true->∀ (i:Nat) (pins:List (Addr×Obj)) (s:Shared) (σ : St) (H:Hp) (E:Value->Shared->Prop),Inv X pins σ H s->(∀ b∈fp,ue X pins H b)->tn i s.heap->J.go i H ->
  wpAny (model P w) X.A (pyNext (.ref it)) (fun r s1=>∃ u,r=some u /\
   wpAny (model P w) X.A (letOwnedTupleGo tg (.ref it) u) (fun _ s2=>∃ x H',Inv X pins σ H' s2/\RelV x u/\J.yld i H x H'/\tn (i+1) s2.heap/\∀ b∈fp,H' b=none) E s1) E s
 done:∀ (X:Cx),X.prog=P->X.w=w->X.K=K->X.calm=true->∀ (i:Nat) (pins:List (Addr×Obj)) (s:Shared) (σ : St) (H:Hp) (E:Value->Shared->Prop),Inv X pins σ H s->(∀ b∈fp,ue X pins H b)->tn i s.heap->J.stop i H ->
  wpAny (model P w) X.A (pyNext (.ref it)) (fun r s1=>r=none/\Inv X pins σ H s1) E s
 self:∀ (A:Around) (i:Nat) (s:Shared) (Q:Value->Shared->Prop) (E:Value->Shared->Prop),tn i s.heap->Q (.ref it) s->wpAny (model P w) A (pyIter (.ref it)) Q E s
abbrev TI:=St->Hp->(It->Hp->Prop)->Prop
def PIE (X:Cx) (pins:List (Addr×Obj)) (σ : St) (tg:Expr) (R:It->Hp->Prop) (itv:Value) (s2:Shared):Prop :=
 ∃ (it:Addr) (fp:List Addr) (tn:Nat->Heap->Prop) (J:It) (H':Hp),itv=.ref it/\Inv X pins σ H' s2/\Turn X.prog X.w X.K tg J fp it tn/\tn 0 s2.heap/\(∀ b∈fp,ue X pins H' b)/\R J H'
def PI (X:Cx) (tg iter:Expr) (wi:TI):Prop :=
 ∀ (pins:List (Addr×Obj)) (s:Shared) (σ : St) (H:Hp) (R:It->Hp->Prop),Inv X pins σ H s->wi σ H R ->
  wpAny (model X.prog X.w) X.A (eval iter X.env) (fun v s1=>wpAny (model X.prog X.w) X.A (pyIter v) (PIE X pins σ tg R) X.xe s1) X.xe s
theorem IU {M:Model} {A:Around} {E:Value->Shared->Prop} {s:Shared} {tg:Expr} {it:Addr} {u:Value} {o:Obj} {n:String} {vs:Array Value} {Q:Unit->Shared->Prop} (ho:s.heap.get? it=some o) (hc:o.cls=.type n) (hd:o.data=.fields vs)
 (hn:["enumerate","zip","dict_itemiterator","dict_reverseitemiterator","odict_iterator","itertools.zip_longest","itertools.pairwise"].contains n=false) (hQ:Q () s):wpAny M A (letOwnedTupleGo tg (.ref it) u) Q E s:=by
 unfold letOwnedTupleGo
 cases tg<;>first
  |exact wpAny_pure hQ
  | (cases u<;>first
      |exact wpAny_pure hQ
      | (refine wpAny_bind (wpAny_load ho ?_)
         rw [hc,hd]
         show wpAny M A (if (["enumerate","zip","dict_itemiterator","dict_reverseitemiterator","odict_iterator","itertools.zip_longest","itertools.pairwise"].contains n&&vs[0]? == some (rawInt _))=true then _ else _) Q E s
         rw [if_neg (by intro h;rw [hn,Bool.false_and] at h;cases h)]
         exact wpAny_pure hQ))
def Itl (K:Frag) (a:Addr):It :=
 ⟨fun i H=>∃ xs x,SqL K H a xs/\xs[i]? = some x,fun i H x H'=>H'=H/\∀ xs,SqL K H a xs->xs[i]? = some x,fun i H=>∃ xs,SqL K H a xs/\xs.length<=i⟩
def Itr (lo:Int) (n:Nat):It:=⟨fun i _=>i<n,fun i H x H'=>H'=H/\x=.int (lo+i),fun i _=>n<=i⟩
theorem Jo {P:Program} {w:World} {K:Frag} {tg:Expr} (a it:Addr):Turn P w K tg (Itl K a) [it] it (fun i h=>h.IsListIter it a i) where
 mem:=by simp
 obj:=fun i h st b hb=>by
  have e:b=it:=by simpa using hb
  subst e
  obtain ⟨o,e,c,d⟩:=st
  exact ⟨o,e,fun v z=>by rw [d] at z;cases z⟩
 keep:=fun i h h' st k=>st.at fun o e=>k it (by simp) o e
 item:=by
  intro X hP hw hK hc i pins s σ H E I hf st hg
  subst hP hw hK
  obtain ⟨xs,x,hq,hx⟩:=hg
  obtain ⟨its,rv,p,hz⟩:=I.list hq
  obtain ⟨u,hu,ru⟩:=rv.get hx
  obtain ⟨f0,f1,f2,f3,f4,f5⟩:=hf it (by simp)
  refine wpAny_pyNext_list_item st p.isList (x:=u) (by simpa using hu) fun h' st' sb => ?_
  have I1:Inv X pins σ H {s with heap:=h' }:=I.turned (t':=s.toks) (fun b o hb e=>(sb.2 b hb).trans e) f0 f1 f3 f4 f5
  obtain ⟨o,e,c,d⟩:=id st'
  exact ⟨u,rfl,IU (s:={s with heap:=h' }) e c d (by decide) ⟨x,H,I1,ru,⟨rfl,fun ys hy=>by rw [I.FT hy hq];exact hx⟩,st',fun b hb=>(hf b hb).1⟩⟩
 done:=by
  intro X hP hw hK hc i pins s σ H E I hf st hg
  subst hP hw hK
  obtain ⟨xs,hq,hx⟩:=hg
  obtain ⟨its,rv,p,hz⟩:=I.list hq
  obtain ⟨f0,f1,f2,f3,f4,f5⟩:=hf it (by simp)
  have hl:=rv.length
  exact wpAny_pyNext_list_end (I.ok.hd hc) st p.isList (by simp;omega) fun h' eb=>⟨rfl,I.turned (t':=s.toks) (fun b o hb e=>eb b o hb e) f0 f1 f3 f4 f5⟩
 self:=fun _ _ _ _ _ st h=>wpAny_pyIter_listiter st h
theorem GH {P:Program} {w:World} {K:Frag} {tg:Expr} (it:Addr) (lo:Int) (n:Nat):Turn P w K tg (Itr lo n) [it] it (fun i h=>IsRangeIter h it (lo+(i:Nat)*1) ((n:Int)-(i:Nat)) 1) where
 mem:=by simp
 obj:=fun i h st b hb=>by
  have e:b=it:=by simpa using hb
  subst e
  exact ⟨_,st,fun v z=>by
   have z':Data.fields _=Data.cell v:=z
   cases z'⟩
 keep:=fun i h h' st k=>k it (by simp) _ st
 item:=by
  intro X hP hw hK hc i pins s σ H E I hf st hg
  subst hP hw hK
  obtain ⟨f0,f1,f2,f3,f4,f5⟩:=hf it (by simp)
  have W:=Walks.range (prog:=X.prog) (w:=X.w) (I.ok.hd hc) it lo 1 n
  refine W.item i s _ _ hg st fun v h' tk hv st' kk => ?_
  obtain ⟨t,rfl⟩:=hv
  have I1:Inv X pins σ H {s with heap:=h',toks:=tk}:=I.turned (fun b o hb e=>kk b o (by simpa using hb) e) f0 f1 f3 f4 f5
  refine ⟨_,rfl,IU (s:={s with heap:=h',toks:=tk}) (n:="range_iterator") st' rfl rfl (by decide) ⟨.int (lo+i),H,I1,⟨t,?_⟩,⟨rfl,rfl⟩,st',fun b hb=>(hf b hb).1⟩⟩
  rw [Int.mul_one]
 done:=by
  intro X hP hw hK hc i pins s σ H E I hf st hg
  subst hP hw hK
  obtain ⟨f0,f1,f2,f3,f4,f5⟩:=hf it (by simp)
  exact wpAny_pyNext_range_end (I.ok.hd hc) st (by have:n<=i:=hg;omega) fun h' eb=>⟨rfl,I.turned (t':=s.toks) (fun b o hb e=>eb b o hb e) f0 f1 f3 f4 f5⟩
 self:=fun _ _ _ _ _ st h=>wpAny_pyIter_rangeiter st h
end L2
namespace L2
open PySem PySem.Spec PyProof.Rows
section
variable {X:Cx} {tg:Expr}
def g9 (K:Frag) (tl:TE):TI:=fun σ H R=>tl σ H fun x H1=>∃ a,x=.ref a/\(∃ xs,SqL K H1 a xs)/\R (Itl K a) H1
theorem dS {l:Expr} {tl:TE} (hl:PE X l tl):PI X tg l (g9 X.K tl):=by
 intro pins s σ H R I h
 refine thn (hl pins s σ H _ I h) fun v s1 ⟨x,H1,I1,r1,q1⟩ => ?_
 obtain ⟨a,e,⟨xs,hq⟩,q⟩:=q1
 subst e
 cases r1
 obtain ⟨its,rv,p,hz⟩:=I1.list hq
 refine wpAny_pyIter_list p.isList ?_
 refine ⟨s1.heap.objs.size,[s1.heap.objs.size],_,_,H1,rfl,I1.kept (t':=s1.toks) fun b o e=>aH _ e,Jo a _,⟨_,bc _ rfl,rfl,rfl⟩,fun b hb => ?_,q⟩
 have e:b=s1.heap.objs.size:=by simpa using hb
 subst e
 exact I1.J9 (ay _) (I1.hok.fresh (ay _))
theorem Fw {pins:List (Addr×Obj)} {σ : St} {H:Hp} {s:Shared} {R:It->Hp->Prop} {E:Value->Shared->Prop} {lo hi:Int} {t u v:Tok} {tk:Nat} (I:Inv X pins σ H s) (h1:-(2 ^ 62)<=lo) (h2:lo<2 ^ 62) (h3:-(2 ^ 62)<=hi) (h4:hi<2 ^ 62)
 (q:R (Itr lo (hi-lo).toNat) H):wpAny (model X.prog X.w) X.A (pyIter (.ref s.heap.objs.size)) (PIE X pins σ tg R) E {s with heap:=s.heap.push {cls:=.type "range",data:=.fields #[.int lo t,.int hi u,.int 1 v]},toks:=tk}:=by
 refine wpAny_pyIter_range (IsRange.new ..) (small_one h1 h2 h3 h4) ?_
 have I1:Inv X pins σ H {s with heap:=s.heap.push {cls:=.type "range",data:=.fields #[.int lo t,.int hi u,.int 1 v]},toks:=tk}:=I.kept fun b o e=>aH _ e
 refine ⟨(s.heap.push {cls:=.type "range",data:=.fields #[.int lo t,.int hi u,.int 1 v]}).objs.size,[(s.heap.push {cls:=.type "range",data:=.fields #[.int lo t,.int hi u,.int 1 v]}).objs.size],_,_,H,rfl,
  I1.kept (t':=tk) fun b o e=>aH _ e,GH _ lo (hi-lo).toNat,?_,fun b hb => ?_,q⟩
 ·have e1:lo+((0:Nat):Int)*1=lo:=by simp
  have e2:(((hi-lo).toNat:Nat):Int)-((0:Nat):Int)=Builtin.Range.rangeSize lo hi 1:=by rw [rangeSize_one];split<;>omega
  show IsRangeIter _ _ (lo+((0:Nat):Int)*1) ((((hi-lo).toNat:Nat):Int)-((0:Nat):Int)) 1
  rw [e1,e2]
  exact bc _ rfl
 ·have e:b=(s.heap.push {cls:=.type "range",data:=.fields #[.int lo t,.int hi u,.int 1 v]}).objs.size:=by simpa using hb
  subst e
  exact I1.J9 (ay _) (I1.hok.fresh (ay _))
def Rf (ta:TA):TI:=fun σ H R=>ta σ H fun vs H1=>∃ j:Int,vs=[.int j]/\-(2 ^ 62)<=j/\j<2 ^ 62/\R (Itr 0 j.toNat) H1
def Rc (ta:TA):TI:=fun σ H R=>ta σ H fun vs H1=>∃ i j:Int,vs=[.int i,.int j]/\(-(2 ^ 62)<=i/\i<2 ^ 62/\-(2 ^ 62)<=j/\j<2 ^ 62)/\R (Itr i (j-i).toNat) H1
theorem Qp {a:Expr} {ta:TA} {p pos:Pos} (hg:Gl X "range") (hm:X.mg "range"=none) (ha:PA X [a] ta) (hs:starEach [a] X.env=[(false,eval a X.env)]:=by rfl):PI X tg (.Call (.Name "range" p) [a] [] pos) (Rf ta):=by
 intro pins s σ H R I h
 refine Call_ (qC I hg hm boot_range (PyProof.Rows.callWith_type1 (thn (ha pos pins s σ H _ I h) fun us s1 ⟨vs,H1,I1,r1,q1⟩ => ?_) hs rfl))
 obtain ⟨j,e,q1,q2,q⟩:=q1
 subst e
 cases r1 with
 |cons r rr =>
  cases rr
  obtain ⟨t,rfl⟩:=r
  exact call_range_1 (Fw I1 (by omega) (by omega) q1 q2 (by simpa using q))
theorem Qo {a b:Expr} {ta:TA} {p pos:Pos} (hg:Gl X "range") (hm:X.mg "range"=none) (ha:PA X [a,b] ta) (hs:starEach [a,b] X.env=[(false,eval a X.env),(false,eval b X.env)]:=by rfl) (hs2:starEach [b] X.env=[(false,eval b X.env)]:=by rfl) :
 PI X tg (.Call (.Name "range" p) [a,b] [] pos) (Rc ta):=by
 intro pins s σ H R I h
 refine Call_ (qC I hg hm boot_range (PyProof.Rows.callWith_type1 (thn (ha pos pins s σ H _ I h) fun us s1 ⟨vs,H1,I1,r1,q1⟩ => ?_) (by rw [hs,hs2]) (by rw [hs2];rfl)))
 obtain ⟨i,j,e,⟨q1,q2,q3,q4⟩,q⟩:=q1
 subst e
 cases r1 with
 |cons r rr =>
  cases rr with
  |cons r' rr =>
   cases rr
   obtain ⟨t,rfl⟩:=r
   obtain ⟨t',rfl⟩:=r'
   exact call_range_2 (Fw I1 q1 q2 q3 q4 q)
def kI (wi:TI) (g:TG) (tb:TS):TS:=fun D σ H=>wi σ H fun J H1=>∃ W:Nat->Nat->St->Hp->Prop,(∃ m,W 0 m σ H1)/\∀ i m σ H,W i m σ H ->
 (J.stop i H/\D.nx σ H)\/(J.go i H/\∃ N:St->Hp->Prop,(∀ σ' H',N σ' H'->∃ m',m'<m/\W (i+1) m' σ' H')/\∀ x H',J.yld i H x H'->g x σ H' fun σ2 H2=>tb {D with nx:=N,ct:=N,bk:=D.nx} σ2 H2)
def zC (fp:List Addr) (h:Heap):List (Addr×Obj):=fp.filterMap fun b=>(h.get? b).map fun o=>(b,o)
theorem tE {fp:List Addr} {h:Heap} {b:Addr} {o:Obj} (hb:b∈fp) (e:h.get? b=some o):(b,o)∈zC fp h:=List.mem_filterMap.mpr ⟨b,hb,by rw [e];rfl⟩
theorem JN {fp:List Addr} {h:Heap} {p:Addr×Obj} (hp:p∈zC fp h):p.1∈fp/\h.get? p.1=some p.2:=by
 obtain ⟨b,hb,e⟩:=List.mem_filterMap.mp hp
 cases q:h.get? b with
 |none=>rw [q] at e;cases e
 |some o =>
  rw [q] at e
  have e':(b,o)=p:=ax e
  subst e'
  exact ⟨hb,q⟩
theorem Inv.pinned {pins:List (Addr×Obj)} {σ : St} {H:Hp} {s:Shared} {fp:List Addr} (I:Inv X pins σ H s) (hf:∀ b∈fp,ue X pins H b) (ho:∀ b∈fp,∃ o,s.heap.get? b=some o/\∀ v,o.data ≠ .cell v):Inv X (pins++zC fp s.heap) σ H s :=
 I.Iw fun p hp=>(aQ.mp hp).elim (fun z=>I.pin p (cf _ z)) fun z=>by
  obtain ⟨hb,e⟩:=JN z
  obtain ⟨f0,f1,f2,_⟩:=hf p.1 hb
  obtain ⟨o,e',d⟩:=ho p.1 hb
  rw [e] at e';cases e'
  exact ⟨e,f0,f1,f2,d⟩
theorem Inv.uk {pins pl:List (Addr×Obj)} {σ : St} {H:Hp} {s:Shared} (I:Inv X (pins++pl) σ H s):Inv X pins σ H s:=I.Iw fun p hp=>I.pin p (cf _ (List.mem_append_left _ hp))
theorem eB {iter:Expr} {body:List Stmt} {wi:TI} {g:TG} {tb:TS} {pos:Pos} (hp:PassesOwn (model X.prog X.w) X.A X.env X.xe) (hc:X.calm=true) (hi:PI X tg iter wi) (hg:PG X tg g) (hb:PSs X body tb)
 (hs:∀ x,foldedSetIterable iter X.env x=pure x:=by intro _;rfl):PS X (.For tg iter body [] pos) (kI wi g tb):=by
 intro pins s σ H D I h
 refine wpAny_For (thn (hi pins s σ H _ I h) fun v s1 h1=>thn h1 fun itv s2 h2 => ?_) hs
 obtain ⟨it,fp,tn,J,H2,e,I2,T,st2,f2,W,⟨m0,w0⟩,turn⟩:=h2
 subst e
 have GS:∀ {H':Hp},(∀ b∈fp,H' b=none)->∀ b∈fp,ue X pins H' b:=fun hn b hb=>⟨hn b hb,(f2 b hb).2⟩
 refine codeAny_forLoop_any (fun n s'=>∃ i σ' H',Inv X pins σ' H' s'/\tn i s'.heap/\(∀ b∈fp,H' b=none)/\W i n σ' H') ?_ m0 ⟨0,σ,H2,I2,st2,fun b hb=>(f2 b hb).1,w0⟩
 rintro n s3 ⟨i,σ3,H3,I3,st3,fr3,w3⟩
 rcases turn i n σ3 H3 w3 with ⟨stop,qn⟩|⟨go,N,hN,step⟩
 ·refine wpAny_passesOwn hp (thn (T.done X rfl rfl rfl hc i pins s3 σ3 H3 X.xe I3 (GS fr3) st3 stop) fun r s4 ⟨hr,I4⟩ => ?_)
  subst hr
  exact wpAny_execs_nil ⟨σ3,H3,I4,qn⟩
 ·refine wpAny_passesOwn hp (thn (T.item X rfl rfl rfl hc i pins s3 σ3 H3 X.xe I3 (GS fr3) st3 go) fun r s4 ⟨u,hr,h4⟩ => ?_)
  subst hr
  refine wpAny_passesOwn hp (thn h4 fun _ s5 ⟨x,H5,I5,r5,y5,st5,fr5⟩ => ?_)
  have I5':=I5.pinned (GS fr5) (T.obj _ _ st5)
  refine wpAny_passesOwn hp (thn (hg _ s5 σ3 H5 x u _ I5' r5 (step x H5 y5)) fun _ s6 ⟨σ6,H6,I6,q6⟩ => ?_)
  refine wpAny_passesOwn hp (thn (hb _ s6 σ6 H6 _ I6 q6) fun f s7 q7 => ?_)
  have again:∀ {σ7:St} {H7:Hp},Inv X (pins++zC fp s5.heap) σ7 H7 s7->N σ7 H7->∃ m,m<n/\∃ i σ' H',Inv X pins σ' H' s7/\tn i s7.heap/\(∀ b∈fp,H' b=none)/\W i m σ' H':=fun {σ7 H7} I7 n7=>by
   obtain ⟨m',hm,w7⟩:=hN σ7 H7 n7
   refine ⟨m',hm,i+1,σ7,H7,I7.uk,T.keep _ _ _ st5 fun b hb o e=>(I7.pin (b,o) (cf _ (cf _ (tE hb e)))).1,fun b hb => ?_,w7⟩
   obtain ⟨o,e,d⟩:=T.obj _ _ st5 b hb
   exact (I7.pin (b,o) (cf _ (cf _ (tE hb e)))).2.1
  cases f with
  |next=>obtain ⟨σ7,H7,I7,n7⟩:=q7;exact again I7 n7
  |cont=>obtain ⟨σ7,H7,I7,n7⟩:=q7;exact again I7 n7
  |brk=>obtain ⟨σ7,H7,I7,q7⟩:=q7;exact ⟨σ7,H7,I7.uk,q7⟩
  |ret v=>obtain ⟨x7,σ7,H7,I7,r7,q7⟩:=q7;exact ⟨x7,σ7,H7,I7.uk,r7,q7⟩
end
theorem dO {K:Frag} {a:Addr} {xs:List V} {g:TG} {tb:TS} {D:Ends} {σ : St} {H:Hp} (Pv:Nat->St->Hp->Prop) (h0:Pv 0 σ H) (hl:∀ i σ H,i<=xs.length->Pv i σ H->SqL K H a xs)
 (hs:∀ i x σ H,xs[i]? = some x->Pv i σ H->g x σ H fun σ2 H2=>tb {D with nx:=Pv (i+1),ct:=Pv (i+1),bk:=D.nx} σ2 H2) (hd:∀ σ H,Pv xs.length σ H->D.nx σ H) :
 ∃ W:Nat->Nat->St->Hp->Prop,(∃ m,W 0 m σ H)/\∀ i m σ H,W i m σ H ->
  ((Itl K a).stop i H/\D.nx σ H)\/((Itl K a).go i H/\∃ N:St->Hp->Prop,(∀ σ' H',N σ' H'->∃ m',m'<m/\W (i+1) m' σ' H')/\∀ x H',(Itl K a).yld i H x H'->g x σ H' fun σ2 H2=>tb {D with nx:=N,ct:=N,bk:=D.nx} σ2 H2):=by
 refine ⟨fun i m σ H=>m=xs.length-i/\i<=xs.length/\Pv i σ H,⟨xs.length,by simp,aT _,h0⟩,?_⟩
 rintro i m σ H ⟨rfl,hi,p⟩
 have q:=hl i σ H hi p
 by_cases hlt:i<xs.length
 ·refine .inr ⟨⟨xs,xs[i],q,by simp [hlt]⟩,Pv (i+1),fun σ' H' p'=>⟨xs.length-(i+1),by omega,rfl,hlt,p'⟩,fun x H' y => ?_⟩
  obtain ⟨e,y⟩:=y
  subst e
  exact hs i x σ _ (y xs q) p
 ·have e:i=xs.length:=by omega
  subst e
  exact .inl ⟨⟨xs,q,ay _⟩,hd σ H p⟩
end L2
namespace L2
open PySem PySem.Spec PyProof.Rows
abbrev R2:=V->V->Hp->VK->Prop
def OpR (X:Cx) (f:Value->Value->Sem Value) (r:R2):Prop :=
 ∀ (pins:List (Addr×Obj)) (s:Shared) (σ : St) (H:Hp) (x y:V) (v u:Value) (Q:VK),Inv X pins σ H s->RelV x v->RelV y u->r x y H Q ->
  wpAny (model X.prog X.w) X.A (f v u) (EP X pins σ Q) X.xe s
def UnR (X:Cx) (f:Value->Sem Value) (r:V->Hp->VK->Prop):Prop :=
 ∀ (pins:List (Addr×Obj)) (s:Shared) (σ : St) (H:Hp) (x:V) (v:Value) (Q:VK),Inv X pins σ H s->RelV x v->r x H Q ->
  wpAny (model X.prog X.w) X.A (f v) (EP X pins σ Q) X.xe s
def xH (X:Cx) (f:Value) (r:List V->Hp->VK->Prop):Prop :=
 ∀ (pins:List (Addr×Obj)) (s:Shared) (σ : St) (H:Hp) (xs:List V) (us:List Value) (Q:VK),Inv X pins σ H s->Vals xs us->r xs H Q ->
  wpAny (model X.prog X.w) X.A (call f us) (EP X pins σ Q) X.xe s
def TF (X:Cx) (r:V->Hp->(Bool->Hp->Prop)->Prop):Prop :=
 ∀ (pins:List (Addr×Obj)) (s:Shared) (σ : St) (H:Hp) (x:V) (v:Value) (Q:Bool->Hp->Prop),Inv X pins σ H s->RelV x v->r x H Q ->
  wpAny (model X.prog X.w) X.A (truthy v) (TP X pins σ Q) X.xe s
def tOp (r:R2) (ta tb:TE):TE:=fun σ H Q=>ta σ H fun x H1=>tb σ H1 fun y H2=>r x y H2 Q
def tUn (r:V->Hp->VK->Prop) (ta:TE):TE:=fun σ H Q=>ta σ H fun x H1=>r x H1 Q
def rI (C:Int->Int->Prop) (g:Int->Int->V):R2:=fun x y H Q=>∃ i j,x=.int i/\y=.int j/\C i j/\Q (g i j) H
def rI0 (g:Int->Int->V):R2:=fun x y H Q=>∃ i j,x=.int i/\y=.int j/\Q (g i j) H
def rU (g:Int->V):V->Hp->VK->Prop:=fun x H Q=>∃ i,x=.int i/\Q (g i) H
section
variable {X:Cx} {a b c:Expr} {ta tb tc:TE} {pos:Pos}
theorem Qb (ha:PE X a ta) (hb:PE X b tb) {pins:List (Addr×Obj)} {s:Shared} {σ : St} {H:Hp} {R:V->V->Hp->Prop} (I:Inv X pins σ H s)
 (h:ta σ H fun x H1=>tb σ H1 fun y H2=>R x y H2) {Q:Value->Shared->Prop} {f:Value->Value->Sem Value}
 (hf:∀ v u s2 x y H2,Inv X pins σ H2 s2->RelV x v->RelV y u->R x y H2->wpAny (model X.prog X.w) X.A (f v u) Q X.xe s2) :
 wpAny (model X.prog X.w) X.A (eval a X.env) (fun v s₁ => wpAny (model X.prog X.w) X.A (eval b X.env) (fun u s₂ => wpAny (model X.prog X.w) X.A (f v u) Q X.xe s₂) X.xe s₁) X.xe s:=by
 refine thn (ha pins s σ H _ I h) fun v s1 ⟨x,H1,I1,r1,q1⟩ => ?_
 refine thn (hb pins s1 σ H1 _ I1 q1) fun u s2 ⟨y,H2,I2,r2,q2⟩ => ?_
 exact hf v u s2 x y H2 I2 r1 r2 q2
theorem bZ {op:Operator} {r:R2} (ho:OpR X (binaryOp op) r) (ha:PE X a ta) (hb:PE X b tb):PE X (.BinOp a op b pos) (tOp r ta tb):=by
 intro pins s σ H Q I h
 exact wpAny_BinOp (Qb ha hb I h fun v u s2 x y H2 I2 rx ry q=>ho pins s2 σ H2 x y v u Q I2 rx ry q)
theorem d7 {op:UnaryOp} {r:V->Hp->VK->Prop} (ho:UnR X (unaryOp op) r) (ha:PE X a ta):PE X (.UnaryOp op a pos) (tUn r ta):=by
 intro pins s σ H Q I h
 exact UnaryOp_ (thn (ha pins s σ H _ I h) fun v s1 ⟨x,H1,I1,r1,q1⟩=>ho pins s1 σ H1 x v Q I1 r1 q1)
theorem opI {f:Value->Value->Sem Value} {C:Int->Int->Prop} {g:Int->Int->Int}
 (rule:∀ (i j:Int) (t u:Tok) (s:Shared) (Q:Value->Shared->Prop) (E:Value->Shared->Prop),C i j->Q (.int (g i j) s.toks) {s with toks:=s.toks+1}->wpAny (model X.prog X.w) X.A (f (.int i t) (.int j u)) Q E s) :
 OpR X f (rI C fun i j=>.int (g i j)):=by
 intro pins s σ H x y v u Q I rx ry h
 obtain ⟨i,j,rfl,rfl,hc,q⟩:=h
 obtain ⟨t,rfl⟩:=rx
 obtain ⟨t',rfl⟩:=ry
 exact rule i j t t' s _ _ hc ⟨.int (g i j),H,I.tok _,⟨_,rfl⟩,q⟩
theorem Lj {f:Value->Value->Sem Value} {g:Int->Int->Int}
 (rule:∀ (i j:Int) (t u:Tok) (s:Shared) (Q:Value->Shared->Prop) (E:Value->Shared->Prop),Q (.int (g i j) s.toks) {s with toks:=s.toks+1}->wpAny (model X.prog X.w) X.A (f (.int i t) (.int j u)) Q E s) :
 OpR X f (rI0 fun i j=>.int (g i j)):=by
 intro pins s σ H x y v u Q I rx ry h
 obtain ⟨i,j,rfl,rfl,q⟩:=h
 obtain ⟨t,rfl⟩:=rx
 obtain ⟨t',rfl⟩:=ry
 exact rule i j t t' s _ _ ⟨.int (g i j),H,I.tok _,⟨_,rfl⟩,q⟩
theorem MW {f:Value->Value->Sem Value} {g:Int->Int->Bool}
 (rule:∀ (i j:Int) (t u:Tok) (s:Shared) (Q:Value->Shared->Prop) (E:Value->Shared->Prop),Q (.bool (g i j)) s->wpAny (model X.prog X.w) X.A (f (.int i t) (.int j u)) Q E s) :
 OpR X f (rI0 fun i j=>.bl (g i j)):=by
 intro pins s σ H x y v u Q I rx ry h
 obtain ⟨i,j,rfl,rfl,q⟩:=h
 obtain ⟨t,rfl⟩:=rx
 obtain ⟨t',rfl⟩:=ry
 exact rule i j t t' s _ _ ⟨.bl (g i j),H,I,rfl,q⟩
def Ql (i j:Int):Prop:=0<j/\j<1073741824
def Im (i j:Int):Prop:=(-(2 ^ 64)<i/\i<2 ^ 64)\/(-(2 ^ 64)<j/\j<2 ^ 64)
theorem Im.ok {i j:Int} (h:Im i j):IntMulOk i j:=by
 rcases h with ⟨h1,h2⟩|⟨h1,h2⟩
 ·exact .of_left (intBits_le_64 h1 h2)
 ·exact .of_right (intBits_le_64 h1 h2)
theorem GG (k:Nat):(0:Int)<=2 ^ k:=by
 rw [two_pow_cast]
 exact Int.natCast_nonneg _
theorem jW:OpR X (binaryOp .Add) (rI0 fun i j=>.int (i+j)):=Lj fun _ _ _ _ _ _ _ q=>add_int q
theorem nH:OpR X (binaryOp .Sub) (rI0 fun i j=>.int (i-j)):=Lj fun _ _ _ _ _ _ _ q=>sub_int q
theorem Lh:OpR X (binaryOp .Mult) (rI Im fun i j=>.int (i*j)):=opI fun _ _ _ _ _ _ _ hc q=>mul_int q hc.ok
theorem MV:OpR X (binaryOp .FloorDiv) (rI Ql fun i j=>.int (i / j)):=opI fun i j _ _ _ _ _ hc q=>by
 have h1:(0:Int)<j:=hc.1
 have h2:j<1073741824:=hc.2
 exact floordiv_int (by omega) (by rw [Int.fdiv_eq_ediv_of_nonneg i (by omega)];exact q) (.inl (PyProof.noPylong_small (by omega)))
theorem Li:OpR X (binaryOp .Mod) (rI (fun _ j=>0<j) fun i j=>.int (i%j)):=opI fun i j _ _ _ _ _ hc q=>by
 have h1:(0:Int)<j:=hc
 exact mod_int' (by omega) (by rw [Int.fmod_eq_emod_of_nonneg i (by omega)];exact q)
theorem Hd:OpR X (binaryOp .RShift) (rI (fun _ j=>0<=j) fun i j=>.int (i / 2 ^ j.toNat)):=opI fun i j _ _ _ _ _ hc q =>
 rshift_int hc (by rw [Int.fdiv_eq_ediv_of_nonneg i (GG _)];exact q)
theorem nI:OpR X (binaryOp .BitAnd) (rI0 fun i j=>.int (Builtin.bitAnd i j)):=Lj fun _ _ _ _ _ _ _ q=>and_int q
theorem Lf:OpR X (binaryOp .BitOr) (rI0 fun i j=>.int (Builtin.bitOr i j)):=Lj fun _ _ _ _ _ _ _ q=>or_int q
theorem Hb:OpR X (binaryOp .BitXor) (rI0 fun i j=>.int (Builtin.bitXor i j)):=Lj fun _ _ _ _ _ _ _ q=>xor_int q
theorem unI {f:Value->Sem Value} {g:Int->Int}
 (rule:∀ (i:Int) (t:Tok) (s:Shared) (Q:Value->Shared->Prop) (E:Value->Shared->Prop),Q (.int (g i) s.toks) {s with toks:=s.toks+1}->wpAny (model X.prog X.w) X.A (f (.int i t)) Q E s) :
 UnR X f (rU fun i=>.int (g i)):=by
 intro pins s σ H x v Q I rx h
 obtain ⟨i,rfl,q⟩:=h
 obtain ⟨t,rfl⟩:=rx
 exact rule i t s _ _ ⟨.int (g i),H,I.tok _,⟨_,rfl⟩,q⟩
theorem cG:UnR X (unaryOp .USub) (rU fun i=>.int (-i)):=unI fun _ _ _ _ _ q=>neg_int q
end
def OW:V->V->Bool
 |.non,.non=>true | .non,.int _=>true | .int _,.non=>true | .non,.bl _=>true | .bl _,.non=>true | .non,.str _=>true | .str _,.non=>true
 |.int _,.int _=>true | .bl _,.bl _=>true | .str _,.str _=>true | .byt _,.byt _=>true
 |.int _,.str _=>true | .str _,.int _=>true | .bl _,.str _=>true | .str _,.bl _=>true
 |_,_=>false
def rEq:R2:=fun x y H Q=>OW x y=true/\Q (.bl (decide (x=y))) H
def rNe:R2:=fun x y H Q=>OW x y=true/\Q (.bl (!decide (x=y))) H
theorem IZ {i j:Int}:decide (V.int i=V.int j)=(i==j):=by
 rw [bU]
 simp
theorem LV {i j:Bool}:decide (V.bl i=V.bl j)=(i==j):=by
 rw [bU]
 simp
theorem IY {i j:Str}:decide (V.str i=V.str j)=(i==j):=by
 rw [bU]
 simp
theorem I0 {i j:Array UInt8}:decide (V.byt i=V.byt j)=(i.toList==j.toList):=by
 rw [bU]
 cases i
 cases j
 simp
section
variable {X:Cx} {a b c:Expr} {ta tb tc:TE} {pos:Pos}
theorem cZ {pins:List (Addr×Obj)} {σ : St} {H:Hp} {s:Shared} {Q:VK} {k k':Bool} (I:Inv X pins σ H s) (q:Q (.bl k) H) (e:k=k'):EP X pins σ Q (.bool k') s:=by
 subst e
 exact ⟨.bl k,H,I,rfl,q⟩
theorem cF:OpR X (compareOp .Eq) rEq:=by
 intro pins s σ H x y v u Q I rx ry h
 obtain ⟨hs,q⟩:=h
 cases x with
 |non =>
  cases rx
  cases y with
  |non=>cases ry;exact PySem.EqNone.eq_none_none (cZ I q (by simp))
  |bl j=>cases ry;exact PySem.EqNone.eq_none_bool (cZ I q (by simp))
  |int j=>obtain ⟨t',rfl⟩:=ry;exact PySem.EqNone.eq_none_int (cZ I q (by simp))
  |str j=>obtain ⟨t',rfl⟩:=ry;exact PySem.EqNone.eq_none_str (cZ I q (by simp))
  |_=>exact absurd (show false=true from hs) aV
 |bl i =>
  cases rx
  cases y with
  |non=>cases ry;exact PySem.EqNone.eq_bool_none (cZ I q (by simp))
  |bl j=>cases ry;exact eq_bool (cZ I q LV)
  |str j=>obtain ⟨t',rfl⟩:=ry;exact PySem.EqMixed.eq_bool_str (cZ I q (by simp))
  |_=>exact absurd (show false=true from hs) aV
 |int i =>
  obtain ⟨t,rfl⟩:=rx
  cases y with
  |non=>cases ry;exact PySem.EqNone.eq_int_none (cZ I q (by simp))
  |int j=>obtain ⟨t',rfl⟩:=ry;exact eq_int (cZ I q IZ)
  |str j=>obtain ⟨t',rfl⟩:=ry;exact PySem.EqMixed.eq_int_str (cZ I q (by simp))
  |_=>exact absurd (show false=true from hs) aV
 |str i =>
  obtain ⟨t,rfl⟩:=rx
  cases y with
  |non=>cases ry;exact PySem.EqNone.eq_str_none (cZ I q (by simp))
  |bl j=>cases ry;exact PySem.EqMixed.eq_str_bool (cZ I q (by simp))
  |int j=>obtain ⟨t',rfl⟩:=ry;exact PySem.EqMixed.eq_str_int (cZ I q (by simp))
  |str j=>obtain ⟨t',rfl⟩:=ry;exact eq_str (cZ I q IY)
  |_=>exact absurd (show false=true from hs) aV
 |byt i =>
  obtain ⟨t,rfl⟩:=rx
  cases y with
  |byt j=>obtain ⟨t',rfl⟩:=ry;exact PySem.W.eq_bytes (cZ I q I0)
  |_=>exact absurd (show false=true from hs) aV
 |_=>cases y<;>exact absurd (show false=true from hs) aV
theorem Lg:OpR X (compareOp .NotEq) rNe:=by
 intro pins s σ H x y v u Q I rx ry h
 obtain ⟨hs,q⟩:=h
 cases x with
 |non =>
  cases rx
  cases y with
  |non=>cases ry;exact PySem.EqNone.ne_none_none (cZ I q (by simp))
  |bl j=>cases ry;exact PySem.EqNone.ne_none_bool (cZ I q (by simp))
  |int j=>obtain ⟨t',rfl⟩:=ry;exact PySem.EqNone.ne_none_int (cZ I q (by simp))
  |str j=>obtain ⟨t',rfl⟩:=ry;exact PySem.EqNone.ne_none_str (cZ I q (by simp))
  |_=>exact absurd (show false=true from hs) aV
 |bl i =>
  cases rx
  cases y with
  |non=>cases ry;exact PySem.EqNone.ne_bool_none (cZ I q (by simp))
  |bl j=>cases ry;exact ne_bool (cZ I q (congrArg not LV))
  |str j=>obtain ⟨t',rfl⟩:=ry;exact PySem.EqMixed.ne_bool_str (cZ I q (by simp))
  |_=>exact absurd (show false=true from hs) aV
 |int i =>
  obtain ⟨t,rfl⟩:=rx
  cases y with
  |non=>cases ry;exact PySem.EqNone.ne_int_none (cZ I q (by simp))
  |int j=>obtain ⟨t',rfl⟩:=ry;exact ne_int (cZ I q (congrArg not IZ))
  |str j=>obtain ⟨t',rfl⟩:=ry;exact PySem.EqMixed.ne_int_str (cZ I q (by simp))
  |_=>exact absurd (show false=true from hs) aV
 |str i =>
  obtain ⟨t,rfl⟩:=rx
  cases y with
  |non=>cases ry;exact PySem.EqNone.ne_str_none (cZ I q (by simp))
  |bl j=>cases ry;exact PySem.EqMixed.ne_str_bool (cZ I q (by simp))
  |int j=>obtain ⟨t',rfl⟩:=ry;exact PySem.EqMixed.ne_str_int (cZ I q (by simp))
  |str j=>obtain ⟨t',rfl⟩:=ry;exact ne_str (cZ I q (congrArg not IY))
  |_=>exact absurd (show false=true from hs) aV
 |byt i =>
  obtain ⟨t,rfl⟩:=rx
  cases y with
  |byt j=>obtain ⟨t',rfl⟩:=ry;exact PySem.W.ne_bytes (cZ I q (congrArg not I0))
  |_=>exact absurd (show false=true from hs) aV
 |_=>cases y<;>exact absurd (show false=true from hs) aV
theorem my:OpR X (compareOp .Lt) (rI0 fun i j=>.bl (decide (i<j))):=MW fun _ _ _ _ _ _ _ q=>lt_int q
theorem dW:OpR X (compareOp .LtE) (rI0 fun i j=>.bl (decide (i<=j))):=MW fun _ _ _ _ _ _ _ q=>le_int q
theorem FH:OpR X (compareOp .Gt) (rI0 fun i j=>.bl (decide (j<i))):=MW fun _ _ _ _ _ _ _ q=>gt_int q
theorem Q6:OpR X (compareOp .GtE) (rI0 fun i j=>.bl (decide (j<=i))):=MW fun _ _ _ _ _ _ _ q=>ge_int q
theorem fy (b:Expr) {op:CmpOp} (h:op ≠ .In:=by decide) (h2:op ≠ .NotIn:=by decide):behindInMarks op b=false:=by
 have e1:(op==CmpOp.In)=false:=by cases op<;>first|rfl|exact absurd rfl h
 have e2:(op==CmpOp.NotIn)=false:=by cases op<;>first|rfl|exact absurd rfl h2
 cases b<;>simp [behindInMarks,e1,e2]
theorem dU {op:CmpOp} {r:R2} (ho:OpR X (compareOp op) r) (ha:PE X a ta) (hb:PE X b tb) (hm:behindInMarks op b=false):PE X (.Compare a [op] [b] pos) (tOp r ta tb):=by
 intro pins s σ H Q I h
 exact wpAny_Compare1 (Qb ha hb I h fun v u s2 x y H2 I2 rx ry q=>ho pins s2 σ H2 x y v u Q I2 rx ry q) hm
def bH (t:TE):TT:=fun σ H Q=>t σ H fun x H'=>∃ k,x=.bl k/\Q k H'
theorem ML {op:CmpOp} {r:R2} (ho:OpR X (compareOp op) r) (ha:PE X a ta) (hb:PE X b tb) (hm:behindInMarks op b=false):PT X (.Compare a [op] [b] pos) (bH (tOp r ta tb)):=by
 intro pins s σ H Q I h
 refine wpAny_isTrue_Compare1 (thn (ha pins s σ H _ I h) fun v s1 ⟨x,H1,I1,r1,q1⟩=>thn (hb pins s1 σ H1 _ I1 q1) fun u s2 ⟨y,H2,I2,r2,q2⟩ =>
  thn (ho pins s2 σ H2 x y v u _ I2 r1 r2 q2) fun c s3 ⟨z,H3,I3,r3,k,e,q3⟩ => ?_) hm
 subst e
 cases r3
 exact wpAny_truthy_bool ⟨H3,I3,q3⟩
def fR (r r':R2) (ta tb tc:TE):TE:=fun σ H Q=>ta σ H fun x H1=>tb σ H1 fun y H2=>r x y H2 fun z H3=>∃ k,z=.bl k /\
 (if k=true then tc σ H3 fun w' H4=>r' y w' H4 Q else Q (.bl false) H3)
theorem oB {op op':CmpOp} {r r':R2} (ho:OpR X (compareOp op) r) (ho':OpR X (compareOp op') r') (ha:PE X a ta) (hb:PE X b tb) (hc:PE X c tc)
 (hm:lastMarks [op,op'] [b,c]=false:=by with_unfolding_all rfl):PE X (.Compare a [op,op'] [b,c] pos) (fR r r' ta tb tc):=by
 intro pins s σ H Q I h
 refine Compare_chain (thn (ha pins s σ H _ I h) fun v s1 ⟨x,H1,I1,r1,q1⟩=>chain_link (thn (hb pins s1 σ H1 _ I1 q1) fun u s2 ⟨y,H2,I2,r2,q2⟩ =>
  thn (ho pins s2 σ H2 x y v u _ I2 r1 r2 q2) fun d s3 ⟨z,H3,I3,r3,k,e,q3⟩ => ?_)) hm
 subst e
 cases r3
 refine wpAny_truthy_bool ?_
 cases k with
 |false=>exact ite_ff ⟨.bl false,H3,I3,rfl,q3⟩
 |true=>exact ite_tt (chain_last (thn (hc pins s3 σ H3 _ I3 q3) fun w' s4 ⟨z',H4,I4,r4,q4⟩=>ho' pins s4 σ H4 y z' u w' Q I4 r2 r4 q4))
theorem kJ {op op':CmpOp} {r r':R2} (ho:OpR X (compareOp op) r) (ho':OpR X (compareOp op') r') (ha:PE X a ta) (hb:PE X b tb) (hc:PE X c tc)
 (hm:lastMarks [op,op'] [b,c]=false:=by with_unfolding_all rfl):PT X (.Compare a [op,op'] [b,c] pos) (bH (fR r r' ta tb tc)):=by
 intro pins s σ H Q I h
 refine isTrue_chain (thn (ha pins s σ H _ I h) fun v s1 ⟨x,H1,I1,r1,q1⟩=>test_link (thn (hb pins s1 σ H1 _ I1 q1) fun u s2 ⟨y,H2,I2,r2,q2⟩ =>
  thn (ho pins s2 σ H2 x y v u _ I2 r1 r2 q2) fun d s3 ⟨z,H3,I3,r3,k,e,q3⟩ => ?_)) hm
 subst e
 cases r3
 refine wpAny_truthy_bool ?_
 cases k with
 |false =>
  obtain ⟨k',e',q'⟩:=q3
  cases e'
  exact ite_ff ⟨H3,I3,q'⟩
 |true =>
  refine ite_tt (test_last (thn (hc pins s3 σ H3 _ I3 q3) fun w' s4 ⟨z',H4,I4,r4,q4⟩=>thn (ho' pins s4 σ H4 y z' u w' _ I4 r2 r4 q4) fun d' s5 ⟨z2,H5,I5,r5,k2,e2,q5⟩ => ?_))
  subst e2
  cases r5
  exact wpAny_truthy_bool ⟨H5,I5,q5⟩
def L8 (K:Frag) (x:V) (H:Hp) (k:Bool):Prop :=
 match x with
 |.non=>k=false
 |.bl b=>k=b
 |.int i=>k=(i != 0)
 |.str y=>y.length<=sizeLine/\k=((y.length:Int) != 0)
 |.byt y=>y.size<=sizeLine/\k=((y.size:Int) != 0)
 |.ref p=>(∃ xs,SqL K H p xs/\k = !xs.isEmpty)\/(∃ xs,SqT K H p xs/\k = !xs.isEmpty)\/∃ kvs,H p=some (.dK kvs)/\k = !kvs.isEmpty
 |_=>False
theorem Hn {κ : Type} {kvs:List (κ × V)} {vs:List (κ × Value)} (r:KV kvs vs):(!vs.isEmpty) = !kvs.isEmpty:=by
 cases r<;>rfl
theorem zR {xs:List V} {its:List Value} (r:Vals xs its):(!its.toArray.isEmpty) = !xs.isEmpty:=by
 cases r<;>simp
theorem zO:(sizeLine:Nat)<2 ^ 63:=by rw [sizeLine_eq];decide
theorem OK:TF X (fun x H Q=>∃ k,L8 X.K x H k/\Q k H):=by
 intro pins s σ H x v Q I rx h
 obtain ⟨k,e,q⟩:=h
 have hl:=zO
 have hs:sizeLine=16777216:=sizeLine_eq
 cases x with
 |non =>
  cases rx
  have e':k=false:=e
  subst e'
  exact truthy_none ⟨H,I,q⟩
 |bl b =>
  cases rx
  have e':k=b:=e
  subst e'
  exact wpAny_truthy_bool ⟨H,I,q⟩
 |int i =>
  obtain ⟨t,rfl⟩:=rx
  have e':k=(i != 0):=e
  subst e'
  exact PySem.P.truthy_int ⟨H,I,q⟩
 |str y =>
  obtain ⟨t,rfl⟩:=rx
  obtain ⟨hy,e'⟩:y.length<=sizeLine/\k=((y.length:Int) != 0):=e
  subst e'
  exact PySem.P.truthy_str (by omega) ⟨H,I.tok _,q⟩
 |byt y =>
  obtain ⟨t,rfl⟩:=rx
  obtain ⟨hy,e'⟩:y.size<=sizeLine/\k=((y.size:Int) != 0):=e
  subst e'
  exact PySem.W.truthy_bytes (by omega) ⟨H,I.tok _,q⟩
 |ref p =>
  cases rx
  have e':(∃ xs,SqL X.K H p xs/\k = !xs.isEmpty)\/(∃ xs,SqT X.K H p xs/\k = !xs.isEmpty)\/∃ kvs,H p=some (.dK kvs)/\k = !kvs.isEmpty:=e
  rcases e' with ⟨xs,hx,e'⟩|⟨xs,hx,e'⟩|⟨kvs,hx,e'⟩
  ·subst e'
   obtain ⟨its,r,pl,hz⟩:=I.list hx
   have hlen:=r.length
   exact wpAny_truthy_list pl.isList (by simp only [aL];omega) ⟨H,I.tok _,by rw [zR r];exact q⟩
  ·subst e'
   obtain ⟨its,r,pl,hz⟩:=I.tuple hx
   have hlen:=r.length
   exact truthy_tuple pl (by simp only [aL];omega) ⟨H,I.tok _,by rw [zR r];exact q⟩
  ·subst e'
   obtain ⟨hz,hS,vs,r,m⟩:kvs.length<=sizeLine/\(p==sysModules)=false/\∃ vs,KV kvs vs/\s.heap.DictOf (cY X.prog X.w) p vs:=I.hok p _ hx
   have hlen:kvs.length=vs.length:=Paired.length r
   exact wpAny_truthy_dict hS m (by omega) ⟨H,I.tok _,by rw [Hn r];exact q⟩
 |_=>exact (show False from e).elim
theorem uO (ha:PE X a ta) (he:∀ whole,isTrue a X.env whole=(do let v <-whole;standAt a.pos;holding [v] (truthy v))) :
 PT X a (fun σ H Q=>ta σ H fun x H'=>∃ k,L8 X.K x H' k/\Q k H'):=by
 intro pins s σ H Q I h
 exact isTrue_plain (thn (ha pins s σ H _ I h) fun v s1 ⟨x,H1,I1,r1,q1⟩=>OK pins s1 σ H1 x v Q I1 r1 q1) (he _)
theorem vals1 {x:V} {us:List Value} (r:Vals [x] us):∃ u,us=[u]/\RelV x u:=by
 cases r with
 |cons r1 r2=>cases r2;exact ⟨_,rfl,r1⟩
theorem vals2 {x y:V} {us:List Value} (r:Vals [x,y] us):∃ u w',us=[u,w']/\RelV x u/\RelV y w':=by
 cases r with
 |cons r1 r2 =>
  cases r2 with
  |cons r3 r4=>cases r4;exact ⟨_,_,rfl,r1,r3⟩
theorem Kh (hc:X.calm=true):xH X (.builtin "min") (fun xs H Q=>∃ i j,xs=[.int i,.int j]/\Q (.int (if j<i then j else i)) H):=by
 intro pins s σ H xs us Q I r h
 obtain ⟨i,j,rfl,q⟩:=h
 obtain ⟨u,w',rfl,⟨t,rfl⟩,⟨t',rfl⟩⟩:=vals2 r
 refine min_two_ints (I.ok.hd hc) fun h' tk k=>⟨_,H,I.kept k,?_,q⟩
 by_cases hj:j<i
 ·rw [if_pos hj,if_pos hj];exact ⟨_,rfl⟩
 ·rw [if_neg hj,if_neg hj];exact ⟨_,rfl⟩
end
end L2
namespace L2
open PySem PySem.Spec PyProof.Rows
structure HZ (h:Heap) (x dx C:Addr) (mA:Str->Option Value):Prop where
 obj:h.get? x=some (PySem.W.instObj C dx)
 ns:h.Ns1 dx mA
 ne:dx≠x
theorem JS {h:Heap} {dx:Addr} {mA:Str->Option Value} (n:h.Ns1 dx mA):∃ od,h.get? dx=some od/\∀ name,PySem.W.lookIn name od=some (mA name):=by
 obtain ⟨o,es,ep,ho,hd,hk,_,hm⟩:=n
 refine ⟨o,ho,fun name => ?_⟩
 have e:=hm name
 unfold nsFind findBy at e
 rw [<-Array.find?_toList] at e
 unfold PySem.W.lookIn
 rw [hd]
 dsimp only
 split
 ·rename_i y q
  rw [q] at e
  exact congrArg some e
 ·rename_i q
  rw [q] at e
  have a:es.toList.any (·.refKey)=false:=by
   rw [jJ]
   intro y hy
   obtain ⟨z,t,PB⟩:=hk y (Array.mem_toList_iff.mp hy)
   simp [DictEntry.refKey,PB]
  have a':¬es.toList.any (·.refKey)=true:=by rw [a];exact aV
  rw [if_neg a']
  exact congrArg some e
theorem HZ.look {h:Heap} {x dx C:Addr} {mA:Str->Option Value} (I:HZ h x dx C mA):∃ od,PySem.W.InstAt h x (PySem.W.instObj C dx) C (some od)/\∀ name,PySem.W.lookIn name od=some (mA name) :=
 let ⟨od,ho,hl⟩:=JS I.ns
 ⟨od,⟨I.obj,rfl,rfl,ho⟩,hl⟩
section
variable {prog:Program} {w:World} {A:Around} {E:Value->Shared->Prop} {s:Shared} {K:Frag} {x dx C f:Addr} {mA:Str->Option Value} {name:Str} {v:Value}
theorem get_map {expr:Bool} {Q:Value->Shared->Prop} (X:K.In s.heap) (I:HZ s.heap x dx C mA) (hg:PySem.W.plainGet K C name=true) (hh:PySem.W.hasDictIn K C=true)
 (ha:PySem.W.findIn K (.ref C) name=some none) (hv:mA name=some v) (hv':PySem.W.handedIn v=true) (h:Q v {s with toks:=s.toks+1}) :
 wpAny (model prog w) A (getAttr (.ref x) name expr) Q E s:=by
 obtain ⟨od,J,hl⟩:=I.look
 exact PySem.W.get_value X J (PySem.W.plainGet_of hg).1 (PySem.W.findObj_own hh ha rfl (by rw [hl,hv])) hv' h
theorem LN {pl:Sem Bool} {Q:Value×List Value->Shared->Prop} (X:K.In s.heap) (I:HZ s.heap x dx C mA) (hg:PySem.W.plainGet K C name=true)
 (hf:PySem.W.findIn K (.ref C) name=some (some (.ref f))) (ht:PySem.W.isFn K (.ref f)=true) (hv:mA name=none) (h:Q (.ref f,[.ref x]) s) :
 wpAny (model prog w) A (getMethod (.ref x) name pl) Q E s:=by
 obtain ⟨od,J,hl⟩:=I.look
 exact PySem.W.method_fn X J (PySem.W.plainGet_of hg).1 (PySem.W.plainGet_of hg).2 hf (beq_iff_eq.mp ht) (by show (PySem.W.lookIn name od).map (·.isSome)=some false;rw [hl,hv];rfl) h
theorem MF {ns:List Str} {Q:Unit->Shared->Prop} (X:K.In s.heap) (I:HZ s.heap x dx C mA)
 (hs:PySem.W.findIn K (.ref C) "__setattr__"=some (some (.builtin "object.__setattr__"))) (hp:PySem.W.plainOver K C=true) (ht:PySem.W.takerIn K C name=some none) (hh:PySem.W.hasDictIn K C=true)
 (hw:PySem.Within mA ns) (hsz:ns.length<=sizeLine)
 (h:∀ h',HZ h' x dx C (fun y=>if y=name then some v else mA y)->Heap.SameBut dx s.heap h'->Q () {s with heap:=h',toks:=s.toks+2}) :
 wpAny (model prog w) A (setAttr (.ref x) name v) Q E s:=by
 obtain ⟨od,J,hl⟩:=I.look
 refine PySem.W.set_plain X J hs (PySem.W.osa_open (s:={s with toks:=s.toks+1}) (r:=none) X J hp ht fun b => ?_)
 obtain ⟨cd,hc,hd'⟩:=PySem.W.any_some hh
 have hx:s.heap.get? x=some ⟨.ref C,some dx,.plain,#[]⟩:=I.obj
 refine wpAny_bind (wpAny_pure (wpAny_bind (wpAny_bind (wpAny_loadPart hx (wpAny_bind (PySem.W.Looks.here (s:={s with toks:=s.toks+1}) (PySem.W.looks_clsIn X hc) ?_))))))
 rw [hd']
 refine wpAny_pure (a:=some dx) (wpAny_bind (wpAny_pure (wpAny_bind ?_)))
 refine wpAny_nsSet1 (s:={s with toks:=s.toks+1}) I.ns fun h' hn2 hs2 => ?_
 obtain ⟨oD,esD,epD,hoD,hdD,hcD⟩:=hn2.count (PySem.Within.cons name v hw)
 refine wpAny_bind (wpAny_lookBehind hoD (by rw [hdD];exact pastItsLine_dict (bB hcD (by rw [bM];omega))) ?_)
 exact wpAny_pure (h _ ⟨(hs2.2 _ (Ne.symm I.ne)).trans I.obj,hn2,I.ne⟩ hs2)
theorem Lr {R:Result->Shared->Prop} {vs:List Value} {kw:List (Str×Value)} (X:K.In s.heap) (hm:PySem.W.makesIn K C=true)
 (hi:PySem.W.findIn K (.ref C) "__init__"=some (some (.ref f))) (hf:PySem.W.typeIn K (.ref f)=some (.type "function"))
 (h:codeAny (model prog w) (A.under (.builtin "type.__call__" ⟨.ref C::vs,kw⟩)) (.call (.ref f) ⟨.ref (s.heap.objs.size+1)::vs,kw⟩) (PySem.W.InitBack (s.heap.objs.size+1) R)
   {s with heap:=(s.heap.push PySem.W.emptyDict).push (PySem.W.instObj C s.heap.objs.size)}) :
 codeAny (model prog w) A (.call (.ref C) ⟨vs,kw⟩) R s:=by
 obtain ⟨hh,g,d,t,os⟩:=s
 exact PySem.W.make_core (PySem.W.makes_of X hm) (PySem.W.looks_findIn X hi) (fun self=>PySem.W.bind_fn X self hf) (.inl rfl) h
end
def gu (f:Str) (v:V):List (Str×V)->List (Str×V)
 | []=>[(f,v)]
 | (g,x)::r=>if g=f then (g,v)::r else (g,x)::gu f v r
theorem xx (f g:Str) (v:V):∀ fs:List (Str×V),(gu f v fs).lookup g=if g=f then some v else fs.lookup g
 | []=>by
  show List.lookup g [(f,v)]=_
  by_cases h:g=f
  ·have hb:(g==f)=true:=beq_iff_eq.mpr h
   simp only [List.lookup,hb,if_pos h]
  ·have hb:(g==f)=false:=beq_eq_false_iff_ne.mpr h
   simp only [List.lookup,hb,if_neg h]
 | (k,x)::r=>by
  have ih:=xx f g v r
  rw [show gu f v ((k,x)::r)=(if k=f then (k,v)::r else (k,x)::gu f v r) from rfl]
  by_cases hk:k=f
  ·rw [if_pos hk]
   by_cases h:g=k
   ·have hb:(g==k)=true:=beq_iff_eq.mpr h
    simp only [List.lookup,hb,if_pos (h.trans hk)]
   ·have hb:(g==k)=false:=beq_eq_false_iff_ne.mpr h
    simp only [List.lookup,hb,if_neg (fun e:g=f=>h (e.trans hk.symm))]
  ·rw [if_neg hk]
   by_cases h:g=k
   ·have hb:(g==k)=true:=beq_iff_eq.mpr h
    simp only [List.lookup,hb,if_neg (fun e:g=f=>hk (h.symm.trans e))]
   ·have hb:(g==k)=false:=beq_eq_false_iff_ne.mpr h
    simp only [List.lookup,hb]
    exact ih
theorem wm (f:Str) (v:V):∀ fs:List (Str×V),f∈(gu f v fs).map (·.1)/\∀ g,g∈fs.map (·.1)->g∈(gu f v fs).map (·.1)
 | []=>⟨by simp [gu],fun g h=>by simp at h⟩
 | (k,x)::r=>by
  obtain ⟨i1,i2⟩:=wm f v r
  rw [show gu f v ((k,x)::r)=(if k=f then (k,v)::r else (k,x)::gu f v r) from rfl]
  by_cases hk:k=f
  ·rw [if_pos hk]
   subst hk
   exact ⟨by simp,fun g h=>by simpa using h⟩
  ·rw [if_neg hk]
   refine ⟨?_,fun g h => ?_⟩
   ·rw [aW]
    exact ba _ i1
   ·rw [aW] at h ⊢
    rcases ae.mp h with e|e
    ·exact ae.mpr (.inl e)
    ·exact ba _ (i2 g e)
theorem xy (f:Str) (v:V):∀ fs:List (Str×V),(gu f v fs).length<=fs.length+1
 | []=>by simp [gu]
 | (k,x)::r=>by
  have ih:=xy f v r
  rw [show gu f v ((k,x)::r)=(if k=f then (k,v)::r else (k,x)::gu f v r) from rfl]
  by_cases hk:k=f
  ·rw [if_pos hk,bM,bM];omega
  ·rw [if_neg hk,bM,bM];omega
theorem qT.some_of {v:V} {o:Option Value} (r:qT (some v) o):∃ u,o=some u/\RelV v u:=by
 cases o with
 |none=>exact (show False from r).elim
 |some u=>exact ⟨u,rfl,r⟩
theorem qT.none_of {o:Option Value} (r:qT none o):o=none:=by
 cases o with
 |none=>rfl
 |some u=>exact (show False from r).elim
theorem J3 {v:V} {u:Value} (r:RelV v u):PySem.W.handedIn u=true:=by
 cases v with
 |non=>cases (show u=Value.none from r);rfl
 |bl b=>cases (show u=Value.bool b from r);rfl
 |int i=>obtain ⟨t,e⟩:=(show ∃ t,u=Value.int i t from r);cases e;rfl
 |str x=>obtain ⟨t,e⟩:=(show ∃ t,u=Value.str x t from r);cases e;rfl
 |byt b=>obtain ⟨t,e⟩:=(show ∃ t,u=Value.bytes b t from r);cases e;rfl
 |flt b=>obtain ⟨t,e⟩:=(show ∃ t,u=Value.float b t from r);cases e;rfl
 |ref a=>cases (show u=Value.ref a from r);rfl
 |ty n=>cases (show u=Value.type n from r);rfl
section
variable {P:Program} {w:World} {H H':Hp} {h h':Heap} {a C dx:Addr} {fs fs':List (Str×V)}
theorem D9 (hok:HOk P w H h) (e:H a=some (.ins C dx fs)):∃ mA,HZ h a dx C mA/\(∀ f,qT (fs.lookup f) (mA f))/\PySem.Within mA (fs.map (·.1))/\fs.length<=1000/\H dx=some (.own a):=by
 obtain ⟨d,z,ne,ob,mA,n,r,q⟩:=(show fB P w H h a (.ins C dx fs) from hok a _ e)
 exact ⟨mA,⟨ob,n,ne⟩,r,q,z,d⟩
end
structure Cls (K:Frag) (C:Addr):Prop where
 pg:PySem.W.plainGet K C Str.empty=true
 hd:PySem.W.hasDictIn K C=true
 po:PySem.W.plainOver K C=true
 sa:PySem.W.findIn K (.ref C) "__setattr__"=some (some (.builtin "object.__setattr__"))
theorem Cls.get {K:Frag} {C:Addr} (c:Cls K C) (f:Str):PySem.W.plainGet K C f=true:=c.pg
def dr (K:Frag) (C:Addr) (f:Str):Prop:=PySem.W.findIn K (.ref C) f=some none
theorem dr.QV {K:Frag} {C:Addr} {f:Str} (n:dr K C f):PySem.W.takerIn K C f=some none:=by
 unfold PySem.W.takerIn
 rw [show PySem.W.findIn K (.ref C) f=some none from n]
 rfl
structure Meth (K:Frag) (C:Addr) (m:Str) (f:Addr):Prop where
 at_:PySem.W.findIn K (.ref C) m=some (some (.ref f))
 fn:PySem.W.isFn K (.ref f)=true
 kp:PySem.W.keepIn K (.ref f)=true
section
variable {X:Cx} {pins:List (Addr×Obj)} {σ : St} {H:Hp} {s:Shared} {a C dx:Addr} {fs:List (Str×V)} {f:Str} {v:V} {A:Around} {E:Value->Shared->Prop}
theorem HC {b:Bool} {Q:Value->Shared->Prop} (I:Inv X pins σ H s) (e:H a=some (.ins C dx fs)) (c:Cls X.K C) (n:dr X.K C f) (l:fs.lookup f=some v)
 (h:∀ u s',Inv X pins σ H s'->RelV v u->Q u s'):wpAny (model X.prog X.w) A (getAttr (.ref a) f b) Q E s:=by
 obtain ⟨mA,O,r,_,_,_⟩:=D9 I.hok e
 obtain ⟨u,hu,ru⟩:=qT.some_of (v:=v) (o:=mA f) (by rw [<-l];exact r f)
 exact get_map I.kIn O (c.get f) c.hd n hu (J3 ru) (h u _ (I.tok _) ru)
theorem tO {m:Str} {g:Addr} {pl:Sem Bool} {Q:Value×List Value->Shared->Prop} (I:Inv X pins σ H s) (e:H a=some (.ins C dx fs)) (c:Cls X.K C) (k:Meth X.K C m g) (l:fs.lookup m=none)
 (h:Q (.ref g,[.ref a]) s):wpAny (model X.prog X.w) A (getMethod (.ref a) m pl) Q E s:=by
 obtain ⟨mA,O,r,_,_,_⟩:=D9 I.hok e
 have hn:mA m=none:=qT.none_of (by rw [<-l];exact r m)
 exact LN I.kIn O (c.get m) k.at_ k.fn hn h
theorem GV {y:V} {u:Value} {Q:Unit->Shared->Prop} (I:Inv X pins σ H s) (e:H a=some (.ins C dx fs)) (c:Cls X.K C) (n:dr X.K C f) (hl:fs.length<1000) (ry:RelV y u)
 (h:∀ s',Inv X pins σ (upd H a (.ins C dx (gu f y fs))) s'->Q () s'):wpAny (model X.prog X.w) A (setAttr (.ref a) f u) Q E s:=by
 obtain ⟨mA,O,r,wi,_,ho⟩:=D9 I.hok e
 have hz:(fs.map (·.1)).length<=sizeLine:=by rw [ab,sizeLine_eq];omega
 refine MF I.kIn O c.sa c.po n.QV c.hd wi hz fun h' O' sb=>h _ ?_
 have hd:∃ o,h'.get? dx=some o:=let ⟨o,_,_,e',_⟩:=O'.ns;⟨o,e'⟩
 refine I.write (x:=a) (e:=dx) (by rw [e];exact True.intro) (.inr ho) (fun b q hb z=>(sb.2 b hb).trans z) hd ?_
 refine ⟨by rw [au O.ne];exact ho,?_,O.ne,O'.obj,_,O'.ns,fun g => ?_,fun g hg => ?_⟩
 ·have:=xy f y fs;omega
 ·show qT ((gu f y fs).lookup g) (if g=f then some u else mA g)
  rw [xx]
  by_cases q:g=f
  ·rw [if_pos q,if_pos q];exact ry
  ·rw [if_neg q,if_neg q];exact r g
 ·by_cases q:g=f
  ·rw [q];exact (wm f y fs).1
  ·refine (wm f y fs).2 g (wi g fun z=>hg ?_)
   show (if g=f then some u else mA g)=none
   rw [if_neg q];exact z
theorem Inv.made (I:Inv X pins σ H s):Inv X pins σ (upd (upd H s.heap.objs.size (.own (s.heap.objs.size+1))) (s.heap.objs.size+1) (.ins C s.heap.objs.size []))
 {s with heap:=(s.heap.push PySem.W.emptyDict).push (PySem.W.instObj C s.heap.objs.size)}:=by
 have e1:(s.heap.push PySem.W.emptyDict).get? s.heap.objs.size=some PySem.W.emptyDict:=bc s.heap rfl
 have e2:((s.heap.push PySem.W.emptyDict).push (PySem.W.instObj C s.heap.objs.size)).get? (s.heap.objs.size+1)=some (PySem.W.instObj C s.heap.objs.size):=by
  have:=bc (s.heap.push PySem.W.emptyDict) (o:=PySem.W.instObj C s.heap.objs.size) rfl
  rwa [cR] at this
 have e3:(s.heap.push PySem.W.emptyDict).Ns s.heap.objs.size (fun _=>none):=⟨PySem.W.emptyDict,#[],_,e1,rfl,(fun e he=>absurd he (by simp)),fun _=>rfl⟩
 have I1:=I.laid (a:=s.heap.objs.size) (o:=.own (s.heap.objs.size+1)) (h':=s.heap.push PySem.W.emptyDict) (t':=s.toks) (fun b u q=>aH _ q) (ay _) ⟨_,e1⟩
 refine I1.laid (a:=s.heap.objs.size+1) (o:=.ins C s.heap.objs.size []) (t':=s.toks) (fun b u q=>aH _ q) (Nat.le_of_eq (cR _ _)) ?_
 have ne:s.heap.objs.size≠s.heap.objs.size+1:=bD (fL _)
 refine ⟨by rw [au ne,aw],aT _,ne,e2,fun _=>none,(Heap.Ns1.of_empty e3).at fun o q=>aH _ q,fun _=>True.intro,fun y hy=>absurd rfl hy⟩
theorem NM {prog:Program} {w:World} {env:Env} {e:Expr} {f:Str} {pos:Pos} {s:Shared} {Q:Value->Shared->Prop} (hb:attributeBase e f env (eval e env)=eval e env)
 (h:wpAny (model prog w) A (eval e env) (fun o s₁ => wpAny (model prog w) A (getAttr o f true) Q E s₁) E s):wpAny (model prog w) A (eval (.Attribute e f pos) env) Q E s :=
 Attribute_any_ h (by rw [arm_eval_Attribute,hb])
end
def d6 (K:Frag) (ta:TE) (f:Str):TE:=fun σ H Q=>ta σ H fun x H1=>∃ a C dx fs v,x=.ref a/\H1 a=some (.ins C dx fs)/\Cls K C/\dr K C f/\fs.lookup f=some v/\Q v H1
def mr (K:Frag) (ta tv:TE) (f:Str):TS:=fun D σ H=>tv σ H fun y H1=>ta σ H1 fun x H2=>∃ a C dx fs,x=.ref a/\H2 a=some (.ins C dx fs)/\Cls K C/\dr K C f/\fs.length<1000 /\
 D.nx σ (upd H2 a (.ins C dx (gu f y fs)))
section
variable {X:Cx} {o e value:Expr} {f:Str} {pos pos' AW:Pos} {ta tv:TE}
theorem O6 (he:PE X e ta) (hb:attributeBase e f X.env (eval e X.env)=eval e X.env):PE X (.Attribute e f pos) (d6 X.K ta f):=by
 intro pins s σ H Q I h
 refine NM hb (thn (he pins s σ H _ I h) fun u s1 ⟨x,H1,I1,rx,a,C,dx,fs,v,ex,ea,c,n,l,q⟩ => ?_)
 subst ex
 obtain rfl:u=Value.ref a:=rx
 exact HC I1 ea c n l fun u' s2 I2 ru=>⟨v,H1,I2,ru,q⟩
theorem fx (ha:PE X o ta) (hv:PE X value tv) (hs:swapsWith value (some (.Attribute o f pos')) pos.line X.env=pure false):PS X (.Assign [.Attribute o f pos'] value pos) (mr X.K ta tv f):=by
 intro pins s σ H D I h
 refine plainObj_wpAny_Assign_Attribute (thn (hv pins s σ H _ I h) fun u s1 ⟨y,H1,I1,ry,q⟩=>thn (ha pins s1 σ H1 _ I1 q) fun ov s2 ⟨x,H2,I2,rx,a,C,dx,fs,ex,ea,c,n,l,q2⟩ => ?_) hs
 subst ex
 obtain rfl:ov=Value.ref a:=rx
 exact GV I2 ea c n l ry fun s3 I3=>⟨σ,_,I3,q2⟩
theorem N9 {pl:Sem Bool} {m:Str} {apos:Pos} {args:List Expr} {pins:List (Addr×Obj)} {s:Shared} {σ : St} {H:Hp} {Q:Value->Shared->Prop} {te:TE} (he:PE X e te) (I:Inv X pins σ H s)
 (h:te σ H fun x H1=>∃ a C dx fs g,x=.ref a/\H1 a=some (.ins C dx fs)/\Cls X.K C/\Meth X.K C m g/\fs.lookup m=none /\
   ∀ s1,Inv X pins σ H1 s1->wpAny (model X.prog X.w) X.A (callWith pos (.ref g) [.ref a] (backTo pos (starEach args X.env)) (backToKw pos (keywordEach [] X.env))) Q X.xe s1)
 (ht:eval (.Call (.Attribute e m apos) args [] pos) X.env=(do
   let ov <-eval e X.env
   standAt apos.atName
   let (f,first) <-holding [ov] (getMethod ov m pl)
   callWith pos f first (backTo pos (starEach args X.env)) (backToKw pos (keywordEach [] X.env)))) :
 wpAny (model X.prog X.w) X.A (eval (.Call (.Attribute e m apos) args [] pos) X.env) Q X.xe s:=by
 refine PySem.W.methodCall_KW (pl:=pl) (thn (he pins s σ H _ I h) fun u s1 ⟨x,H1,I1,rx,a,C,dx,fs,g,ex,ea,c,k,l,q⟩ => ?_) ht
 subst ex
 obtain rfl:u=Value.ref a:=rx
 exact tO I1 ea c k l (q s1 I1)
end
section
variable {X:Cx} {pins:List (Addr×Obj)} {σ : St} {H:Hp} {s:Shared} {A:Around} {E:Value->Shared->Prop} {Q:Value->Shared->Prop} {c:Value} {b:Bool}
end
end L2
namespace L2
open PySem PySem.Spec PyProof.Rows
structure g7 (k:Nat) (A:Around):Prop where
 hd:A.handled=none
 dp:A.depth+3*k+5<recursionLimit
 un:A.units+16*k+200<cLine
theorem g7.mono {j k:Nat} {A:Around} (r:g7 k A) (h:j<=k):g7 j A:=⟨r.hd,by have:=r.dp;omega,by have:=r.un;omega⟩
theorem g7.deeper {k:Nat} {A:Around} (r:g7 (k+1) A) (env:Env):g7 k (A.deeper env) :=
 ⟨r.hd,by have:=r.dp;show A.depth+1+3*k+5<_;omega,by have:=r.un;show A.units+3+16*k+200<_;omega⟩
theorem Hi {A:Around} {C:Addr} {us:List Value} {kw:List (Str×Value)}:(A.under (.builtin "type.__call__" ⟨.ref C::us,kw⟩)).depth=A.depth+1:=by
 first|rfl|simp [Around.under,Code.weight,Code.isCreation,Code.isGuard,Code.isCaller,Code.frames,Code.isFrame,guardIds]
theorem Hh {A:Around} {C:Addr} {us:List Value} {kw:List (Str×Value)}:(A.under (.builtin "type.__call__" ⟨.ref C::us,kw⟩)).units=A.units+1:=by
 first|rfl|simp [Around.under,Code.cUnits,Code.frames,Code.isFrame]
theorem g7.make {k:Nat} {A:Around} (r:g7 (k+1) A) (C:Addr) (us:List Value) (kw:List (Str×Value)):g7 k (A.under (.builtin "type.__call__" ⟨.ref C::us,kw⟩)) :=
 ⟨r.hd,by have:=r.dp;rw [Hi];omega,by have:=r.un;rw [Hh];omega⟩
theorem g7.depth {k:Nat} {A:Around} (r:g7 k A):A.depth<recursionLimit:=by have:=r.dp;omega
theorem g7.units {k:Nat} {A:Around} (r:g7 k A):A.units+64<cLine:=by have:=r.un;omega
def aF:TA:=fun _ H Q=>Q [] H
def ag (ta:TE) (tr:TA):TA:=fun σ H Q=>ta σ H fun x H1=>tr σ H1 fun xs H2=>Q (x::xs) H2
section
variable {X:Cx} {e:Expr} {es:List Expr} {te:TE} {t:TA} {pos:Pos}
theorem aj:PA X [] aF:=fun _ _ _ _ H Q I h=>Calls.spliced_nil ⟨[],H,I,.nil,h⟩
theorem aa (ha:PE X e te) (hr:PA X es t) (hs:starEach (e::es) X.env=(false,eval e X.env)::starEach es X.env:=by rfl):PA X (e::es) (ag te t):=by
 intro pos pins s σ H Q I h
 rw [hs]
 show wpAny _ _ (spliced ((false,eval e X.env)::backTo pos (starEach es X.env))) _ _ s
 refine Calls.spliced_cons (thn (ha pins s σ H _ I h) fun u s1 ⟨x,H1,I1,r1,q1⟩ => ?_)
 exact thn (hr pos pins s1 σ H1 _ I1 q1) fun us s2 ⟨xs,H2,I2,r2,q2⟩=>⟨x::xs,H2,I2,.cons r1 r2,q2⟩
def xR (t:TA):TE:=fun σ H Q=>t σ H fun xs H1=>xs.length<=sizeLine/\∀ p,H1 p=none->Q (.ref p) (upd H1 p (.tup xs))
def cD (t:TA):TE:=fun σ H Q=>t σ H fun xs H1=>xs.length<=sizeLine/\∀ p,H1 p=none->Q (.ref p) (upd H1 p (.lst xs))
theorem tw {x1} (h:PA X es t):PE X (.Tuple es x1 pos) (xR t):=by
 intro pins s σ H Q I hq
 refine wpAny_Tuple_spliced (thn (h pos pins s σ H _ I hq) fun us s1 ⟨xs,H1,I1,r,z,q⟩=>⟨by rw [<-r.length];exact z,?_⟩)
 have hf:H1 s1.heap.objs.size=none:=I1.hok.fresh (ay _)
 refine ⟨.ref s1.heap.objs.size,upd H1 s1.heap.objs.size (.tup xs),I1.laid (t':=s1.toks) (fun b u e=>aH _ e) (ay _) ?_,rfl,q _ hf⟩
 exact ⟨z,us,r,⟨_,bc _ rfl,rfl,_,rfl⟩⟩
theorem bo (h:PA X es t):PE X (.List es pos) (cD t):=by
 intro pins s σ H Q I hq
 refine wpAny_List_spliced (thn (h pos pins s σ H _ I hq) fun us s1 ⟨xs,H1,I1,r,z,q⟩=>⟨by rw [<-r.length];exact z,?_⟩)
 have hf:H1 s1.heap.objs.size=none:=I1.hok.fresh (ay _)
 refine ⟨.ref s1.heap.objs.size,upd H1 s1.heap.objs.size (.lst xs),I1.laid (t':=s1.toks) (fun b u e=>aH _ e) (ay _) ?_,rfl,q _ hf⟩
 exact ⟨z,us,0,r,bc _ rfl⟩
end
abbrev Sp:=List V->Hp->VK->XK->Prop
abbrev CXT:=List Env->Hp->Shared->XK->Value->Shared->Prop
structure Ik (P:Program) (w:World) (K:Frag) (mg:Str->Option Value) (base:Heap) (A:Around) (outer:List Env) (s:Shared) (H:Hp):Prop where
 frames:A.frames=some outer
 mod:Mod K mg base
 bs:∀ b o,base.get? b=some o->s.heap.get? b=some o/\H b=none
 bsz:base.objs.size<=s.heap.objs.size
 yi:s.heap.FunFrames base outer
 frf:∀ b∈frs outer,H b=none
 hok:HOk P w H s.heap
 bare:AllBare s.gens
def CE (outer:List Env) (P:Program) (w:World) (H:Hp) (s:Shared) (Q:VK) (u:Value) (s':Shared):Prop :=
 ∃ v H',s'.os=s.os/\AllBare s'.gens/\Un (frs outer) [] H H' s.heap s'.heap/\HOk P w H' s'.heap/\RelV v u/\Q v H'
def CR (CX:CXT) (outer:List Env) (P:Program) (w:World) (H:Hp) (s:Shared) (Q:VK) (E:XK) (r:Result) (s':Shared):Prop :=
 match r with
 |.ok (.ret u)=>CE outer P w H s Q u s'
 |.ok _=>False
 |.error e=>CX outer H s E e s'
structure pM (P:Program) (w:World) (K:Frag) (mg:Str->Option Value) (base:Heap) (CX:CXT) (k:Nat) (f:Addr) (fd:FuncData) (ps:List Str) (sp:Sp):Prop where
 len:∀ vs H Q E,sp vs H Q E->vs.length=ps.length
 run:∀ (A:Around) (outer:List Env) (s:Shared) (H:Hp) (args:Args) (us:List Value) (vs:List V) (Q:VK) (E:XK),g7 k A->Ik P w K mg base A outer s H->BindsTo s fd args (ps.zip us)->Vals vs us->sp vs H Q E ->
  codeAny (model P w) A (.call (.ref f) args) (CR CX outer P w H s Q E) s
theorem Ik.make {P:Program} {w:World} {K:Frag} {mg:Str->Option Value} {base:Heap} {A:Around} {outer:List Env} {s:Shared} {H:Hp} (e:Ik P w K mg base A outer s H) (C:Addr) (us:List Value) (kw:List (Str×Value)) :
 Ik P w K mg base (A.under (.builtin "type.__call__" ⟨.ref C::us,kw⟩)) outer s H:=⟨by first|exact e.frames|(simpa [Around.under,Code.envs,Code.isFrame,pushEnvs] using e.frames),e.mod,e.bs,e.bsz,e.yi,e.frf,e.hok,e.bare⟩
section
variable {X:Cx} {pins:List (Addr×Obj)} {σ : St} {H:Hp} {s s':Shared}
theorem Inv.RJ (I:Inv X pins σ H s):Ik X.prog X.w X.K X.mg X.base X.A X.stack s H :=
 ⟨I.ok.frames,I.ok.mod,I.bs,bB I.ok.bsz I.sz,I.stack,I.Iq,I.hok,I.bare⟩
theorem Inv.after {Q:VK} {u:Value} (I:Inv X pins σ H s) (h:CE X.stack X.prog X.w H s Q u s'):EP X pins σ Q u s':=by
 obtain ⟨v,H',os,bare,un,hok,r,q⟩:=h
 obtain ⟨hh,g,d,t,os'⟩:=s'
 obtain rfl:os'=s.os:=os
 exact ⟨v,H',I.call (h':=hh) (g':=g) (d':=d) (t':=t) (ch:=[]) un hok bare (fun b z=>absurd z (by simp)),r,q⟩
end
def bj (sp:Sp) (dvs:List V) (E:XK) (t:TA):TE:=fun σ H Q=>t σ H fun vs H1=>sp (vs++dvs) H1 Q E
def fA (C:Addr) (m:Str) (sp:Sp) (dvs:List V) (E:XK) (ta:TE) (t:TA):TE:=fun σ H Q=>ta σ H fun x H1=>∃ a dx fs,x=.ref a/\H1 a=some (.ins C dx fs)/\fs.lookup m=none /\
 t σ H1 fun vs H2=>sp (x::(vs++dvs)) H2 Q E
def sC (C:Addr) (sp:Sp) (dvs:List V) (E:XK) (t:TA):TE:=fun σ H Q=>t σ H fun vs H1=>∀ x dx,H1 x=none->H1 dx=none->dx≠x ->
 sp (.ref x::(vs++dvs)) (upd (upd H1 dx (.own x)) x (.ins C dx [])) (fun v H2=>v=.non/\Q (.ref x) H2) E
def Binds (K:Frag) (fd:FuncData) (ps:List Str) (ds:List Value):Prop :=
 ∀ (s:Shared) (us:List Value),K.In s.heap->(us++ds).length=ps.length->BindsTo s fd ⟨us,[]⟩ (ps.zip (us++ds))
theorem Binds.all {K:Frag} {fd:FuncData} {ps:List Str} (h:∀ us:List Value,us.length=ps.length->bindArgs fd ⟨us,[]⟩=pure (ps.zip us)):Binds K fd ps []:=fun s us _ hl=>by
 rw [cS] at hl ⊢
 exact .of_eq (h us hl)
def Passes (CX:CXT) (X:Cx) (E:XK):Prop:=∀ (pins:List (Addr×Obj)) (σ : St) (H:Hp) (s:Shared) (e:Value) (s':Shared),Inv X pins σ H s->CX X.stack H s E e s'->X.xe e s'
section
variable {X:Cx} {CX:CXT} {k:Nat} {f C:Addr} {fd:FuncData} {ps:List Str} {sp:Sp} {dvs:List V} {ds:List Value} {E:XK} {x m:Str} {p pos apos:Pos} {e o:Expr} {es:List Expr} {ta:TE} {t:TA}
theorem GX {pins:List (Addr×Obj)} {σ : St} {H:Hp} {s:Shared} {Q:VK} {us:List Value} {vs:List V} (F:pM X.prog X.w X.K X.mg X.base CX k f fd ps sp) (hr:g7 k X.A) (hb:Binds X.K fd ps ds) (hd:Vals dvs ds) (hx:Passes CX X E)
 (I:Inv X pins σ H s) (r:Vals vs us) (h:sp (vs++dvs) H Q E):wpAny (model X.prog X.w) X.A (call (.ref f) us) (EP X pins σ Q) X.xe s:=by
 have r2:Vals (vs++dvs) (us++ds):=r.append hd
 have hl:(us++ds).length=ps.length:=by rw [<-r2.length];exact F.len _ _ _ _ h
 refine wpAny_call (codeAny_mono (F.run X.A X.stack s H ⟨us,[]⟩ (us++ds) (vs++dvs) Q E hr I.RJ (hb s us I.kIn hl) r2 h) fun r s' hq => ?_)
 cases r with
 |error e=>exact hx pins σ H s e s' I hq
 |ok fl =>
  cases fl with
  |ret u=>exact I.after hq
  |next=>exact False.elim hq
  |brk=>exact False.elim hq
  |cont=>exact False.elim hq
theorem MT (F:pM X.prog X.w X.K X.mg X.base CX k f fd ps sp) (hr:g7 k X.A) (hg:Gl X x) (hm:X.mg x=some (.ref f)) (hk:PySem.W.keepIn X.K (.ref f)=true) (hb:Binds X.K fd ps ds) (hd:Vals dvs ds) (hx:Passes CX X E)
 (ha:PA X (e::es) t) (hdb:(x==("__debug__":Str))=false:=by decide) (he:starEach (e::es) X.env=(false,eval e X.env)::starEach es X.env:=by rfl) (hpl:(backTo pos (starEach es X.env)).any (·.1)=false:=by rfl) :
 PE X (.Call (.Name x p) (e::es) [] pos) (bj sp dvs E t):=by
 intro pins s σ H Q I h
 refine wpAny_Call_Name_kw (yI I hg hm ?_ hdb)
 refine PySem.W.callWith_K (h₀ := X.base) I.ok.mod.kin hk (thn (ha pos pins s σ H _ I h) fun us s1 ⟨vs,H1,I1,r,q⟩=>⟨I1.kIn,?_⟩) he hpl
 exact GX F hr hb hd hx I1 r q
theorem MN {pl:Sem Bool} (he:PE X o ta) (c:Cls X.K C) (hm:Meth X.K C m f) (F:pM X.prog X.w X.K X.mg X.base CX k f fd ps sp) (hr:g7 k X.A) (hb:Binds X.K fd ps ds) (hd:Vals dvs ds) (hx:Passes CX X E) (ha:PA X (e::es) t)
 (hst:starEach (e::es) X.env=(false,eval e X.env)::starEach es X.env:=by rfl) (hpl:(backTo pos (starEach es X.env)).any (·.1)=false:=by rfl)
 (ht:eval (.Call (.Attribute o m apos) (e::es) [] pos) X.env=(do
   let ov <-eval o X.env
   standAt apos.atName
   let (f,first) <-holding [ov] (getMethod ov m pl)
   callWith pos f first (backTo pos (starEach (e::es) X.env)) (backToKw pos (keywordEach [] X.env))):=by rfl) :
 PE X (.Call (.Attribute o m apos) (e::es) [] pos) (fA C m sp dvs E ta t):=by
 intro pins s σ H Q I h
 refine PySem.W.methodCall_KW (pl:=pl) (thn (he pins s σ H _ I h) fun u s1 ⟨x,H1,I1,rx,a,dx,fs,ex,ea,l,q⟩ => ?_) ht
 subst ex
 obtain rfl:u=Value.ref a:=rx
 refine tO I1 ea c hm l ?_
 refine PySem.W.callWith_K (first:=[.ref a]) (h₀ := X.base) I.ok.mod.kin hm.kp (thn (ha pos pins s1 σ H1 _ I1 q) fun us s2 ⟨vs,H2,I2,r,q2⟩=>⟨I2.kIn,?_⟩) hst hpl
 exact GX (us:=.ref a::us) (vs:=.ref a::vs) F hr hb hd hx I2 (.cons rfl r) q2
theorem K8 {pl:Sem Bool} (he:PE X o ta) (c:Cls X.K C) (hm:Meth X.K C m f) (F:pM X.prog X.w X.K X.mg X.base CX k f fd ps sp) (hr:g7 k X.A) (hb:Binds X.K fd ps ds) (hd:Vals dvs ds) (hx:Passes CX X E)
 (ht:eval (.Call (.Attribute o m apos) [] [] pos) X.env=(do
   let ov <-eval o X.env
   standAt apos.atName
   let (f,first) <-holding [ov] (getMethod ov m pl)
   callWith pos f first (backTo pos (starEach [] X.env)) (backToKw pos (keywordEach [] X.env))):=by rfl) :
 PE X (.Call (.Attribute o m apos) [] [] pos) (fA C m sp dvs E ta aF):=by
 intro pins s σ H Q I h
 refine PySem.W.methodCall_KW (pl:=pl) (thn (he pins s σ H _ I h) fun u s1 ⟨x,H1,I1,rx,a,dx,fs,ex,ea,l,q⟩ => ?_) ht
 subst ex
 obtain rfl:u=Value.ref a:=rx
 refine tO I1 ea c hm l ?_
 exact PySem.W.callWith_K0 (first:=[.ref a]) I1.kIn hm.kp (GX (us:=[.ref a]) (vs:=[.ref a]) F hr hb hd hx I1 (.cons rfl .nil) q)
structure Mk (K:Frag) (C f:Addr):Prop where
 makes:PySem.W.makesIn K C=true
 init:PySem.W.findIn K (.ref C) "__init__"=some (some (.ref f))
 fn:PySem.W.isFn K (.ref f)=true
 kp:PySem.W.keepIn K (.ref C)=true
theorem Fo {pins:List (Addr×Obj)} {σ : St} {H:Hp} {s:Shared} {Q:VK} {us:List Value} {vs:List V} (M:Mk X.K C f) (F:pM X.prog X.w X.K X.mg X.base CX k f fd ps sp) (hr:g7 (k+1) X.A) (hb:Binds X.K fd ps ds) (hd:Vals dvs ds)
 (hx:Passes CX X E) (I:Inv X pins σ H s) (r:Vals vs us)
 (h:∀ x dx,H x=none->H dx=none->dx≠x->sp (.ref x::(vs++dvs)) (upd (upd H dx (.own x)) x (.ins C dx [])) (fun v H2=>v=.non/\Q (.ref x) H2) E) :
 wpAny (model X.prog X.w) X.A (call (.ref C) us) (EP X pins σ Q) X.xe s:=by
 have hq:=h (s.heap.objs.size+1) s.heap.objs.size (I.hok.fresh (Nat.le_succ _)) (I.hok.fresh (ay _)) (bD (fL _))
 have I2:=Inv.made (C:=C) I
 have r2:Vals (V.ref (s.heap.objs.size+1)::(vs++dvs)) (Value.ref (s.heap.objs.size+1)::(us++ds)):=.cons rfl (r.append hd)
 have hl:(Value.ref (s.heap.objs.size+1)::us++ds).length=ps.length:=by
  have e:=r2.length
  rw [F.len _ _ _ _ hq] at e
  exact e.symm
 refine wpAny_call (Lr (f:=f) I.kIn M.makes M.init (beq_iff_eq.mp M.fn) (codeAny_mono (F.run _ X.stack _ _ ⟨Value.ref (s.heap.objs.size+1)::us,[]⟩ (Value.ref (s.heap.objs.size+1)::(us++ds)) _ _ E (hr.make C us [])
  (I2.RJ.make C us []) (hb _ (Value.ref (s.heap.objs.size+1)::us) I2.kIn hl) r2 hq) fun r s' hq' => ?_))
 cases r with
 |error e=>exact hx pins σ _ _ e s' I2 hq'
 |ok fl =>
  cases fl with
  |ret u =>
   obtain ⟨v,H',I3,rv,ev,q3⟩:=I2.after hq'
   subst ev
   exact ⟨rv,⟨V.ref (s.heap.objs.size+1),H',I3,rfl,q3⟩⟩
  |next=>exact False.elim hq'
  |brk=>exact False.elim hq'
  |cont=>exact False.elim hq'
theorem MO (M:Mk X.K C f) (F:pM X.prog X.w X.K X.mg X.base CX k f fd ps sp) (hr:g7 (k+1) X.A) (hg:Gl X x) (hm:X.mg x=some (.ref C)) (hb:Binds X.K fd ps ds) (hd:Vals dvs ds) (hx:Passes CX X E)
 (ha:PA X (e::es) t) (hdb:(x==("__debug__":Str))=false:=by decide) (he:starEach (e::es) X.env=(false,eval e X.env)::starEach es X.env:=by rfl) (hpl:(backTo pos (starEach es X.env)).any (·.1)=false:=by rfl) :
 PE X (.Call (.Name x p) (e::es) [] pos) (sC C sp dvs E t):=by
 intro pins s σ H Q I h
 refine wpAny_Call_Name_kw (yI I hg hm ?_ hdb)
 refine PySem.W.callWith_K (h₀ := X.base) I.ok.mod.kin M.kp (thn (ha pos pins s σ H _ I h) fun us s1 ⟨vs,H1,I1,r,q⟩=>⟨I1.kIn,?_⟩) he hpl
 exact Fo M F hr hb hd hx I1 r q
theorem La (M:Mk X.K C f) (F:pM X.prog X.w X.K X.mg X.base CX k f fd ps sp) (hr:g7 (k+1) X.A) (hg:Gl X x) (hm:X.mg x=some (.ref C)) (hb:Binds X.K fd ps ds) (hd:Vals dvs ds) (hx:Passes CX X E)
 (hdb:(x==("__debug__":Str))=false:=by decide):PE X (.Call (.Name x p) [] [] pos) (sC C sp dvs E aF):=by
 intro pins s σ H Q I h
 refine wpAny_Call_Name_kw (yI I hg hm ?_ hdb)
 exact PySem.W.callWith_K0 I.kIn M.kp (Fo (us:=[]) M F hr hb hd hx I .nil h)
end
section
variable {X:Cx} {CX:CXT} {k:Nat} {f C:Addr} {fd:FuncData} {ps ks:List Str} {sp:Sp} {E:XK} {x m:Str} {p pos apos TR:Pos} {e o:Expr} {es:List Expr} {kws:List Keyword} {te ta:TE} {t tk:TA} {nm:Option Str}
variable {g:List Value->List Value->List Value} {gV:List V->List V->List V}
end
structure aP (N P:List Str) (sc:Scope):Prop where
 kind:sc.kind=.function
 co:sc.isCoroutine=false
 gen:sc.isGenerator=false
 nd:N.Nodup
 pre:N.take P.length=P
 par:∀ x∈P,sc.names.lookup x=some .local\/sc.names.lookup x=some .cell
 Pc:∀ y∈sc.names,y.2 ≠ .free
theorem C8 {kindOf:Str->Option NameKind} {x:Str}:∀ {binds:List (Str×Value)} {m:Str->Option Value},(∀ v,(x,v)∉binds)->bindL kindOf binds m x=m x
 | [],_,_=>rfl
 | (n,v)::r,m,h=>by
  unfold bindL
  rw [C8 fun w hw=>h w (ba _ hw)]
  split
  ·have:x≠n:=by rintro rfl;exact h v bY
   simp [this]
  ·rfl
theorem Dc {kindOf:Str->Option NameKind} {x:Str}:∀ {binds:List (Str×Value)} {m:Str->Option Value},(∀ v,(x,v)∉binds)->bindC kindOf binds m x=m x
 | [],_,_=>rfl
 | (n,v)::r,m,h=>by
  unfold bindC
  rw [Dc fun w hw=>h w (ba _ hw)]
  split
  ·rfl
  ·have:x≠n:=by rintro rfl;exact h v bY
   simp [this]
theorem C9 {kindOf:Str->Option NameKind} {x:Str} {v:Value}:∀ {P:List Str} {vs:List Value} {i:Nat} {m:Str->Option Value},P.Nodup->P[i]? = some x->vs[i]? = some v->kindOf x=some .local ->
 bindL kindOf (P.zip vs) m x=some v
 | [],_,_,_,_,h,_,_=>by simp at h
 |_::_,[],_,_,_,_,h,_=>by simp at h
 |p::P,w::vs,0,m,nd,h1,h2,hk=>by
  simp at h1 h2;subst h1;subst h2
  show bindL kindOf ((p,w)::P.zip vs) m p=_
  unfold bindL
  rw [C8 fun v hv=>(ee.mp nd).1 (List.of_mem_zip hv).1,if_pos hk]
  simp
 |p::P,w::vs,i+1,m,nd,h1,h2,hk=>by
  show bindL kindOf ((p,w)::P.zip vs) m x=_
  unfold bindL
  exact C9 (i:=i) (ee.mp nd).2 (by simpa using h1) (by simpa using h2) hk
theorem Dd {kindOf:Str->Option NameKind} {x:Str} {v:Value}:∀ {P:List Str} {vs:List Value} {i:Nat} {m:Str->Option Value},P.Nodup->P[i]? = some x->vs[i]? = some v->kindOf x≠some .local ->
 bindC kindOf (P.zip vs) m x=some v
 | [],_,_,_,_,h,_,_=>by simp at h
 |_::_,[],_,_,_,_,h,_=>by simp at h
 |p::P,w::vs,0,m,nd,h1,h2,hk=>by
  simp at h1 h2;subst h1;subst h2
  show bindC kindOf ((p,w)::P.zip vs) m p=_
  unfold bindC
  rw [Dc fun v hv=>(ee.mp nd).1 (List.of_mem_zip hv).1,if_neg hk]
  simp
 |p::P,w::vs,i+1,m,nd,h1,h2,hk=>by
  show bindC kindOf ((p,w)::P.zip vs) m x=_
  unfold bindC
  exact Dd (i:=i) (ee.mp nd).2 (by simpa using h1) (by simpa using h2) hk
def start (N:List Str) (vs:List V):St:=vs.map some++List.replicate (N.length-vs.length) none
def HH (CX:CXT) (P:Program) (w:World) (K:Frag) (mg:Str->Option Value) (base:Heap) (N:List Str) (qual:Str) (scope:Scope) (f:Addr) (cd:Value) (A:Around) (outer:List Env) (s:Shared) (H:Hp) (E:XK):Cx where
 prog:=P
 w:=w
 K:=K
 mg:=mg
 base:=base
 A:=A.deeper (envOfC qual scope s.heap.objs.size f cd)
 N:=N
 s_0:=s
 H_0:=H
 env:=envOfC qual scope s.heap.objs.size f cd
 outer:=outer
 stack:=envOfC qual scope s.heap.objs.size f cd::outer
 ex:=[]
 calm:=true
 fn:=fun _=>true
 pn:=[]
 xe:=fun e s'=>wpAny (model P w) (A.deeper (envOfC qual scope s.heap.objs.size f cd)) (leaving (envOfC qual scope s.heap.objs.size f cd) e) (fun _ s''=>CX outer H s E e s'') (fun e' s''=>CX outer H s E e' s'') s'
theorem Gg {sc:Scope} {n:Nat} {x:Str} (h:sc.names.lookup x=some .cell):∃ c,(cellsFrom n sc.names []).lookup x=some c:=by
 have q:=PySem.W.cellsFrom_some sc.names n [] (.inl h)
 exact xl.mp q
theorem JZ {CX:CXT} {P:Program} {w:World} {K:Frag} {mg:Str->Option Value} {base:Heap} {N ps:List Str} {qual:Str} {scope:Scope} {f:Addr} {cd:Value} {A:Around} {outer:List Env} {s s1:Shared} {H:Hp} {E:XK} {us:List Value} {vs:List V}
 (S:aP N ps scope) (hd:A.handled=none) (e0:Ik P w K mg base A outer s H) (hl:vs.length=ps.length) (r:Vals vs us)
 (x:InCallC s s.heap.objs.size (bindL (envOfC qual scope s.heap.objs.size f cd).kindOf (ps.zip us) fun _=>none) (cellsFrom (s.heap.objs.size+1) scope.names []) (bindC (envOfC qual scope s.heap.objs.size f cd).kindOf (ps.zip us) fun _=>none) s1) :
 Inv (HH CX P w K mg base N qual scope f cd A outer s H E) [] (start N vs) H s1:=by
 have hpl:ps.length<=N.length:=by have:=congrArg List.length S.pre;rw [bL] at this;omega
 obtain ⟨h1,tk,rfl,hk⟩:=x.done
 have noA:∀ b:Addr,b∉(HH CX P w K mg base N qual scope f cd A outer s H E).ex:=fun b z=>absurd (show b∈([]:List Addr) from z) (by simp)
 refine ⟨⟨e0.mod,S.kind,rfl,rfl,ay _,fun y z c h1 h2 => ?_,fun y hy => ?_,fun y c _ h => ?_,fun _=>hd,Around.frames_deeper e0.frames,.inr ⟨rfl,rfl⟩,fun b z=>absurd z (noA b),e0.bs,e0.bsz,fun b _ _=>noA b,fun b z=>absurd z (noA b),e0.yi,e0.frf⟩,
  rfl,e0.bare,Un.kept hk,⟨_,x.toInCall.ns,fun i y v h1 h2 h3 => ?_⟩,fun y c h=>⟨_,x.cell y c h⟩,e0.hok.fresh (ay _),fun y c h => ?_,fun p hp=>absurd (show p∈([]:List (Addr×Obj)) from hp) (by simp),e0.hok.kept hk,?_⟩
 ·exact name_of_addr x.apart (bC h1) (bC h2)
 ·have hy:scope.names.lookup y=some .cell\/scope.names.lookup y=some .free:=hy
  rcases hy with hy|hy
  ·exact Gg hy
  ·exact absurd rfl (S.Pc _ (bC hy))
 ·exact Nat.le_of_lt (x.above y c (bC h))
 ·have hi:i<vs.length:=by
   unfold start at h2
   by_cases hi:i<vs.length
   ·exact hi
   ·rw [List.getElem?_append_right (by simpa using hi)] at h2
    rw [List.getElem?_replicate] at h2
    split at h2<;>cases h2
  have ha:vs[i]? = some v:=by
   unfold start at h2
   rw [List.getElem?_append_left (by simpa using hi),a9] at h2
   cases e:vs[i]? with
   |none=>rw [e] at h2;cases h2
   |some a=>rw [e] at h2;cases h2;rfl
  obtain ⟨u,hu,rv⟩:=r.get ha
  have hp:ps[i]? = some y:=by
   rw [<-S.pre,xn (by omega)];exact h1
  have ndP:ps.Nodup:=by rw [<-S.pre];exact S.nd.sublist (List.take_sublist _ _)
  refine ⟨u,rv,?_⟩
  rcases S.par y (aJ hp) with k|k
  ·exact .inl ⟨k,C9 ndP hp hu k⟩
  ·obtain ⟨c,e⟩:=Gg (n:=s.heap.objs.size+1) k
   refine .inr ⟨.inl k,c,e,?_⟩
   have q:=x.cell y c e
   rw [Dd ndP hp hu (by show scope.names.lookup y≠_;rw [k];decide)] at q
   exact q
 ·exact e0.hok.fresh (Nat.le_of_lt (x.above y c (bC h)))
 ·unfold start
  show _=N.length
  rw [aG,ab,List.length_replicate]
  omega
theorem RH {CX:CXT} {P:Program} {w:World} {K:Frag} {mg:Str->Option Value} {base:Heap} {k:Nat} {f:Addr} {name qual:Str} {params:Arguments} {body:List Stmt} {scope:Scope} {dV kV doc pm cdv ct oc:Value} {an od:Option Addr}
 {osl:Array (Option Value)} {N ps:List Str} {sp:Sp} (lk:K.lookup f=some ⟨oc,od,.func (PySem.W.fnOf name qual params body scope dV kV doc pm an cdv ct),osl⟩) (hcd:PySem.W.codeIn K cdv qual=true) (S:aP N ps scope)
 (len:∀ vs H Q E,sp vs H Q E->vs.length=ps.length)
 (LL:∀ (A:Around) (outer:List Env) (s:Shared) (H:Hp) (vs:List V) (Q:VK) (E:XK),g7 k (A.deeper (envOfC qual scope s.heap.objs.size f cdv))->sp vs H Q E ->
   ∃ t,PSs (HH CX P w K mg base N qual scope f cdv A outer s H E) body t/\t {nx:=fun _ H'=>Q .non H',rt:=Q} (start N vs) H) :
 pM P w K mg base CX (k+1) f (PySem.W.fnOf name qual params body scope dV kV doc pm an cdv ct) ps sp:=by
 refine ⟨len,fun A outer s H args us vs Q E hr e0 hb r hsp => ?_⟩
 have hl:=len _ _ _ _ hsp
 have KX:K.In s.heap:=e0.mod.kin.keeps fun b o e=>(e0.bs b o e).1
 have lim:s.heap.NoLimit:=e0.mod.nolimit.keeps fun b o e=>(e0.bs b o e).1
 have Ry:∀ y∈ps.zip us,scope.names.lookup y.1=some .local\/(scope.names.lookup y.1=some .cell/\((cellsFrom (s.heap.objs.size+1) scope.names []).lookup y.1).isSome=true):=fun ⟨n,v⟩ hy=>by
  rcases S.par n (List.of_mem_zip hy).1 with q|q
  ·exact .inl q
  ·exact .inr ⟨q,PySem.W.cellsFrom_some _ _ _ (.inl q)⟩
 refine codeAny_call_function hr.depth (KX _ _ lk) rfl S.co S.gen rfl (PySem.W.codeRec_of KX hcd) (hb _ _ _ _ ?_)
 refine wpAny_newFunctionEnv_cells S.kind Ry fun env he s1 x => ?_
 subst he
 refine ⟨lim.keeps x.toInCall.keep,codeAny_func ?_⟩
 obtain ⟨t,ht,hq⟩:=LL A outer s H vs Q E (hr.deeper _) hsp
 have I:Inv (HH CX P w K mg base N qual scope f cdv A outer s H E) [] (start N vs) H s1:=JZ S hr.hd e0 hl r x
 refine wpAny_mono (ht [] s1 (start N vs) H _ I hq) (fun fl s' hs => ?_) fun e s' hs=>hs
 have fin:∀ {σ':St} {H':Hp} {v:V} {u:Value},Inv (HH CX P w K mg base N qual scope f cdv A outer s H E) [] σ' H' s'->RelV v u->Q v H'->CE outer P w H s Q u s' :=
  fun {σ' H' v u} J rv q=>⟨v,H',J.os,J.bare,J.base,J.hok,rv,q⟩
 cases fl with
 |ret u =>
  obtain ⟨v,σ',H',J,rv,q⟩:=hs
  exact fin J rv q
 |next =>
  obtain ⟨σ',H',J,q⟩:=hs
  exact fin (v:=V.non) (u:=Value.none) J rfl q
 |brk =>
  obtain ⟨_,_,_,q⟩:=hs
  exact False.elim q
 |cont =>
  obtain ⟨_,_,_,q⟩:=hs
  exact False.elim q
end L2
namespace L2
open PySem PySem.Spec PyProof.Rows
section
variable {X:Cx} {x:Str} {p pos:Pos} {e:Expr} {es:List Expr} {t:TA} {id T:String} {r:List V->Hp->VK->Prop}
def tCB (r:List V->Hp->VK->Prop) (t:TA):TE:=fun σ H Q=>t σ H fun vs H1=>r vs H1 Q
theorem mx (hc:xH X (.builtin id) r) (hg:Gl X x) (hm:X.mg x=none) (hv:bootBuiltins x=some (.builtin id)) (ha:PA X (e::es) t) (hn:x≠"__name__":=by decide) (hdb:(x==("__debug__":Str))=false:=by decide)
 (he:starEach (e::es) X.env=(false,eval e X.env)::starEach es X.env:=by rfl) (hpl:(backTo pos (starEach es X.env)).any (·.1)=false:=by rfl):PE X (.Call (.Name x p) (e::es) [] pos) (tCB r t):=by
 intro pins s σ H Q I h
 refine wpAny_Call_Name_kw (qC I hg hm hv ?_ hn hdb)
 exact PyProof.Rows.callWith_builtin1 (thn (ha pos pins s σ H _ I h) fun us s1 ⟨vs,H1,I1,r1,q1⟩=>hc pins s1 σ H1 vs us Q I1 r1 q1) he hpl
theorem CH (hc:xH X (.type T) r) (hg:Gl X x) (hm:X.mg x=none) (hv:bootBuiltins x=some (.type T)) (ha:PA X (e::es) t) (hn:x≠"__name__":=by decide) (hdb:(x==("__debug__":Str))=false:=by decide)
 (he:starEach (e::es) X.env=(false,eval e X.env)::starEach es X.env:=by rfl) (hpl:(backTo pos (starEach es X.env)).any (·.1)=false:=by rfl):PE X (.Call (.Name x p) (e::es) [] pos) (tCB r t):=by
 intro pins s σ H Q I h
 refine wpAny_Call_Name_kw (qC I hg hm hv ?_ hn hdb)
 exact PyProof.Rows.callWith_type1 (thn (ha pos pins s σ H _ I h) fun us s1 ⟨vs,H1,I1,r1,q1⟩=>hc pins s1 σ H1 vs us Q I1 r1 q1) he hpl
end
end L2
namespace HT
open PySem PyProof.Rows
section
open PySem.SeqAt
open PySem.AutoSeq1 (wpAny_loadPart')
open PySem.MeetsSeq PySem.MeetsSeq2 PySem.MeetsSeq3
end
section
variable {prog:Program} {w:World} {A:Around} {E:Value->Shared->Prop} {s:Shared}
def sIx (n d:Nat):Option Int->Nat
 |none=>d
 |some v=>if v<0 then (v+(n:Int)).toNat else min v.toNat n
theorem uD (n d k:Nat):sIx n d (some (k:Int))=min k n:=by
 show (if (k:Int)<0 then ((k:Int)+(n:Int)).toNat else min (k:Int).toNat n)=min k n
 rw [if_neg (by omega),aD]
end
end HT
namespace L2
open PySem PySem.Spec PyProof.Rows
abbrev TO:=St->Hp->(Option Int->Hp->Prop)->Prop
def PO (X:Cx) (e:Option Expr) (t:TO):Prop :=
 ∀ (pins:List (Addr×Obj)) (s:Shared) (σ : St) (H:Hp) (Q:Option Int->Hp->Prop),Inv X pins σ H s->t σ H Q ->
  wpAny (model X.prog X.w) X.A (evalPart e X.env) (fun u s'=>∃ o H',Inv X pins σ H' s'/\IsPart u o/\Q o H') X.xe s
def yE:TO:=fun _ H Q=>Q none H
def sA (t:TE):TO:=fun σ H Q=>t σ H fun x H1=>∃ i,x=.int i/\Q (some i) H1
section
variable {X:Cx} {e:Expr} {te:TE} {lo hi:Option Expr} {tl th:TO} {pos p2:Pos}
theorem Iv:PO X none yE:=by
 intro pins s σ H Q I h
 rw [evalPart_none]
 exact wpAny_pure ⟨none,H,I,.none,h⟩
theorem mV (h:PE X e te):PO X (some e) (sA te):=by
 intro pins s σ H Q I hw
 rw [evalPart_some]
 refine thn (h pins s σ H _ I hw) fun u s1 ⟨x,H1,I1,r1,q1⟩ => ?_
 obtain ⟨i,rfl,q⟩:=q1
 obtain ⟨t,rfl⟩:=r1
 exact ⟨some i,H1,I1,.int i t,q⟩
def SlR (X:Cx) (r:V->Option Int->Option Int->Hp->VK->Prop):Prop :=
 ∀ (pins:List (Addr×Obj)) (s:Shared) (σ : St) (H:Hp) (x:V) (v vl vu:Value) (lo hi:Option Int) (sl:Addr) (Q:VK),Inv X pins σ H s->RelV x v->s.heap.IsSliceOf sl vl vu .none->IsPart vl lo->IsPart vu hi->r x lo hi H Q ->
  ∃ T id,typeLookup (.type T) "__getitem__"=pure (some (.builtin id))/\s.TypeIs v T/\wpAny (model X.prog X.w) X.A (getItem v (.ref sl)) (EP X pins σ Q) X.xe s
def tSl (r:V->Option Int->Option Int->Hp->VK->Prop) (te:TE) (tl th:TO):TE:=fun σ H Q=>te σ H fun x H1=>tl σ H1 fun l H2=>th σ H2 fun u H3=>r x l u H3 Q
theorem qz {r:V->Option Int->Option Int->Hp->VK->Prop} (hr:SlR X r) (he:PE X e te) (hl:PO X lo tl) (hu:PO X hi th):PE X (.Subscript e (.Slice lo hi none p2) pos) (tSl r te tl th):=by
 intro pins s σ H Q I h
 refine Subscript_ (thn (he pins s σ H _ I h) fun v s1 ⟨x,H1,I1,r1,q1⟩ => ?_)
 refine wpAny_Slice (thn (hl pins s1 σ H1 _ I1 q1) fun vl s2 ⟨l,H2,I2,pl,q2⟩=>thn (hu pins s2 σ H2 _ I2 q2) fun vu s3 ⟨u,H3,I3,pu,q3⟩ => ?_)
 rw [evalPart_none]
 refine wpAny_pure ?_
 have I4:Inv X pins σ H3 {s3 with heap:=s3.heap.push {cls:=.type "slice",data:=.fields #[vl,vu,.none]} }:=I3.kept (t':=s3.toks) fun b ob q=>aH _ q
 obtain ⟨T,id,hT,ht,hg⟩:=hr pins {s3 with heap:=s3.heap.push {cls:=.type "slice",data:=.fields #[vl,vu,.none]} } σ H3 x v vl vu l u s3.heap.objs.size Q I4 r1 (Heap.IsSliceOf.new ..) pl pu q3
 show wpAny (model X.prog X.w) X.A (subscriptTail e (.Slice lo hi none p2) v (.ref s3.heap.objs.size)) (EP X pins σ Q) X.xe {s3 with heap:=s3.heap.push {cls:=.type "slice",data:=.fields #[vl,vu,.none]} }
 exact tail_any (ops:=[.ref s3.heap.objs.size,v]) ht hT hg (by with_unfolding_all rfl)
def rT (xs:List V) (lo hi:Option Int):List V:=(xs.drop (HT.sIx xs.length 0 lo)).take (HT.sIx xs.length xs.length hi-HT.sIx xs.length 0 lo)
theorem Ga (xs:List V) (lo hi:Option Int):(rT xs lo hi).length<=xs.length:=by
 unfold rT
 rw [bL,iz]
 omega
end
end L2
namespace L2
open PySem PySem.Spec PyProof.Rows
def ixN (n:Nat) (i:Int):Option Nat:=if 0<=i then (if i<n then some i.toNat else none) else if -(n:Int)<=i then some (i+n).toNat else none
def atI {α : Type} (xs:List α) (i:Int):Option α := (ixN xs.length i).bind fun j=>xs[j]?
theorem IK {n:Nat} {i:Int} {j:Nat} (h:ixN n i=some j):seqIndex? i n=some j/\j<n/\-(n:Int)<=i/\i<n:=by
 unfold ixN at h
 by_cases h0:0<=i
 ·rw [if_pos h0] at h
  by_cases h1:i<n
  ·rw [if_pos h1] at h
   have e:i.toNat=j:=ax h
   exact ⟨by rw [seqIndex_of h0 h1,e],by omega,by omega,h1⟩
  ·rw [if_neg h1] at h;cases h
 ·rw [if_neg h0] at h
  by_cases h1:-(n:Int)<=i
  ·rw [if_pos h1] at h
   have e:(i+n).toNat=j:=ax h
   exact ⟨by rw [seqIndex_neg (by omega) h1,e],by omega,h1,by omega⟩
  ·rw [if_neg h1] at h;cases h
theorem Jf {α : Type} {xs:List α} {i:Int} {v : α} (h:atI xs i=some v):∃ j,seqIndex? i xs.length=some j/\xs[j]? = some v/\j<xs.length/\-(xs.length:Int)<=i/\i<xs.length:=by
 unfold atI at h
 cases e:ixN xs.length i with
 |none=>rw [e] at h;cases h
 |some j =>
  rw [e] at h
  obtain ⟨h1,h2,h3,h4⟩:=IK e
  exact ⟨j,h1,h,h2,h3,h4⟩
theorem vt {α : Type} {xs:List α} {j:Nat} {v : α} (h:xs[j]? = some v):atI xs (j:Int)=some v:=by
 have hj:j<xs.length:=(ak.mp h).1
 have e:ixN xs.length (j:Int)=some j:=by
  unfold ixN
  rw [if_pos (by omega),if_pos (by omega)];simp
 unfold atI;rw [e];exact h
def EM (b:Expr):Prop:=∀ o i,subscripted b false o i=operate [o,i] (getItem o i)
def IxR (X:Cx) (r:R2):Prop :=
 ∀ (value slice:Expr) (pins:List (Addr×Obj)) (s:Shared) (σ : St) (H:Hp) (x y:V) (v u:Value) (Q:VK),Inv X pins σ H s->RelV x v->RelV y u->r x y H Q ->
  subscripted slice false v u=operate [v,u] (getItem v u)->wpAny (model X.prog X.w) X.A (subscriptTail value slice v u) (EP X pins σ Q) X.xe s
def MtR (X:Cx) (id:String) (r:V->List V->Hp->VK->Prop):Prop :=
 ∀ (pins:List (Addr×Obj)) (s:Shared) (σ : St) (H:Hp) (x:V) (xs:List V) (v:Value) (us:List Value) (Q:VK),Inv X pins σ H s->RelV x v->Vals xs us->r x xs H Q ->
  wpAny (model X.prog X.w) X.A (call (.builtin id) (v::us)) (EP X pins σ Q) X.xe s
section
variable {X:Cx} {a b:Expr} {ta tb:TE} {pos:Pos}
theorem NZ {r:R2} (hr:IxR X r) (ha:PE X a ta) (hb:PE X b tb) (hs:EM b):PE X (.Subscript a b pos) (tOp r ta tb):=by
 intro pins s σ H Q I h
 exact Subscript_ (Qb ha hb I h fun v u s2 x y H2 I2 rx ry q=>hr a b pins s2 σ H2 x y v u Q I2 rx ry q (hs _ _))
def ez (K:Frag):R2:=fun x y H Q=>∃ p xs i v,x=.ref p/\y=.int i/\SqL K H p xs/\atI xs i=some v/\Q v H
def cE (K:Frag):R2:=fun x y H Q=>∃ p xs i v,x=.ref p/\y=.int i/\SqT K H p xs/\atI xs i=some v/\Q v H
theorem Nk:IxR X (ez X.K):=by
 intro value slice pins s σ H x y v u Q I rx ry h hs
 obtain ⟨p,xs,i,z,rfl,rfl,hq,he,q⟩:=h
 cases rx
 obtain ⟨t,rfl⟩:=ry
 obtain ⟨its,r,pl,hz⟩:=I.list hq
 obtain ⟨j,h1,h2,h3,h4,h5⟩:=Jf he
 obtain ⟨w,ew,rw'⟩:=r.get h2
 have hl:=r.length
 have hn:=zO
 have fin:EP X pins σ Q w s:=⟨z,H,I,rw',q⟩
 by_cases h0:0<=i
 ·have hj:i.toNat=j:=by
   rw [seqIndex_of h0 h5] at h1
   exact ax h1
  exact item_listR pl.isList h0 (by omega) (by rw [hj];simpa using ew) fin hs
 ·have hj:(i+(its.toArray.size:Int)).toNat=j:=by
   rw [seqIndex_neg (by omega) h4] at h1
   rw [aL,<-hl]
   exact ax h1
  exact subscriptTail_builtinR (x:=w) pl.isList.typeIs slot_list_getitem.lookup
   (wpAny_getItem_list_neg (Q:=fun r s'=>r=w/\EP X pins σ Q r s') pl.isList (by omega) (by rw [aL]<;>omega) (by omega) (by rw [hj];simpa using ew) ⟨rfl,fin⟩) hs
theorem Pl:IxR X (cE X.K):=by
 intro value slice pins s σ H x y v u Q I rx ry h hs
 obtain ⟨p,xs,i,z,rfl,rfl,hq,he,q⟩:=h
 cases rx
 obtain ⟨t,rfl⟩:=ry
 obtain ⟨its,r,pl,hz⟩:=I.tuple hq
 obtain ⟨j,h1,h2,h3,h4,h5⟩:=Jf he
 obtain ⟨w,ew,rw'⟩:=r.get h2
 have hl:=r.length
 have hn:=zO
 have fin:EP X pins σ Q w s:=⟨z,H,I,rw',q⟩
 exact subscriptTail_builtinR (x:=w) pl.typeIs slot_tuple_getitem.lookup
  (getItem_tuple (j:=j) (Q:=fun r s'=>r=w/\EP X pins σ Q r s') pl (by omega) (by omega) (by rw [aL,<-hl];exact h1) (by simpa using ew) ⟨rfl,fin⟩) hs
theorem DL (lo hi:Option Int) (n:Nat):(sliceBounds lo hi none n).1=((HT.sIx n 0 lo:Nat):Int)/\(sliceBounds lo hi none n).2.1=((HT.sIx n n hi:Nat):Int)/\(sliceBounds lo hi none n).2.2=1:=by
 refine ⟨?_,?_,rfl⟩
 ·cases lo with
  |none=>simp [sliceBounds,HT.sIx]
  |some i =>
   simp only [sliceBounds,HT.sIx,Option.getD_none,show (1:Int) > 0 by decide,if_true]
   by_cases h:i<0
   ·simp only [h,if_true]<;>omega
   ·simp only [h,if_false]<;>omega
 ·cases hi with
  |none=>simp [sliceBounds,HT.sIx]
  |some i =>
   simp only [sliceBounds,HT.sIx,Option.getD_none,show (1:Int) > 0 by decide,if_true]
   by_cases h:i<0
   ·simp only [h,if_true]<;>omega
   ·simp only [h,if_false]<;>omega
theorem Bf (its:List Value) (lo hi:Option Int):slicePick its.toArray lo hi none=((its.drop (HT.sIx its.length 0 lo)).take (HT.sIx its.length its.length hi-HT.sIx its.length 0 lo)).toArray:=by
 obtain ⟨h1,h2,h3⟩:=DL lo hi its.toArray.size
 unfold slicePick
 rw [h1,h2,h3]
 simp only [sliceRange_one,pick_run,aL]<;>rfl
def G4 (K:Frag):V->Option Int->Option Int->Hp->VK->Prop:=fun x lo hi H Q=>∃ a xs,x=.ref a/\SqL K H a xs/\∀ p,H p=none->Q (.ref p) (upd H p (.lst (rT xs lo hi)))
theorem uy:SlR X (G4 X.K):=by
 intro pins s σ H x v vl vu lo hi sl Q I rx hs pl pu h
 obtain ⟨a,xs,rfl,hx,q⟩:=h
 cases rx
 obtain ⟨its,r,ht,hz⟩:=I.list hx
 have hlen:=r.length
 refine ⟨"list",_,slot_list_getitem.lookup,ht.isList.typeIs,?_⟩
 refine wpAny_getItem_list_slice ht.isList hs pl pu .none (by simp) ?_ (by rw [aL]<;>omega)
 rw [Bf,<-hlen]
 refine ⟨.ref s.heap.objs.size,_,I.laid (t':=s.toks) (o:=.lst (rT xs lo hi)) (fun b ob q=>aH _ q) (ay _) ?_,rfl,q _ (I.hok.fresh (ay _))⟩
 exact ⟨bB (Ga xs lo hi) hz,_,0,(r.drop (HT.sIx xs.length 0 lo)).take (HT.sIx xs.length xs.length hi-HT.sIx xs.length 0 lo),bc _ rfl⟩
theorem EB:xH X (.builtin "len") (fun xs H Q=>∃ p ys,xs=[.ref p]/\(SqL X.K H p ys\/SqT X.K H p ys)/\Q (.int ys.length) H):=by
 intro pins s σ H xs us Q I r h
 obtain ⟨p,ys,rfl,hq,q⟩:=h
 obtain ⟨u,rfl,rx⟩:=vals1 r
 cases rx
 have hn:=zO
 rcases hq with hq|hq
 ·obtain ⟨its,r',pl,hz⟩:=I.list hq
  have hlen:=r'.length
  exact Calls.call_len_list pl.isList (by simp only [aL]<;>omega) ⟨.int ys.length,H,I.tok _,⟨s.toks+1,by rw [aL,hlen]⟩,q⟩
 ·obtain ⟨its,r',pl,hz⟩:=I.tuple hq
  have hlen:=r'.length
  exact len_tuple pl (by simp only [aL]<;>omega) ⟨.int ys.length,H,I.tok _,⟨s.toks+1,by rw [aL,hlen]⟩,q⟩
theorem sE:xH X (.type "tuple") (fun xs H Q=>∃ p ys,xs=[.ref p]/\((SqL X.K H p ys/\∀ l,H l=none->Q (.ref l) (upd H l (.tup ys)))\/(SqT X.K H p ys/\Q (.ref p) H))):=by
 intro pins s σ H xs us Q I r h
 obtain ⟨p,ys,rfl,h⟩:=h
 obtain ⟨u,rfl,rx⟩:=vals1 r
 cases rx
 rcases h with ⟨hq,q⟩|⟨hq,q⟩
 ·obtain ⟨its,r',pl,hz⟩:=I.list hq
  have hlen:=r'.length
  refine call_tuple_list pl.isList (fun h' kp => ?_) (by simp only [aL]<;>omega)
  have I1:Inv X pins σ H {s with heap:=h' }:=I.kept (t':=s.toks) kp
  have I2:Inv X pins σ (upd H h'.objs.size (.tup ys)) {s with heap:=h'.push {cls:=.type "tuple",data:=.seq its.toArray} } :=
   I1.laid (t':=s.toks) (fun b o e=>aH _ e) (ay _) (show fB X.prog X.w _ _ _ (.tup ys) from ⟨hz,its,r',IsTup.new _ _⟩)
  exact ⟨.ref h'.objs.size,_,I2,rfl,q _ (I1.hok.fresh (ay _))⟩
 ·obtain ⟨its,r',pl,hz⟩:=I.tuple hq
  exact call_tuple_same pl ⟨.ref p,H,I,rfl,q⟩
def tyV (K:Frag) (T:String) (x:V) (H:Hp):Prop:=match x with
 |.str _=>T="str"
 |.int _=>T="int"
 |.ref p=>(T="list"/\∃ xs,SqL K H p xs)\/(T="tuple"/\∃ o,K.lookup p=some o/\o.cls=.type "tuple"/\o.dict=none) \/
  (T="dict"/\((∃ kvs,H p=some (.dK kvs))\/∃ kvs,H p=some (.dT kvs)))\/(T="set"/\∃ S n,H p=some (.set S n))
 |_=>False
theorem Kx {pins:List (Addr×Obj)} {σ : St} {H:Hp} {s:Shared} {T:String} {x:V} {v:Value} (I:Inv X pins σ H s) (r:RelV x v) (ty:tyV X.K T x H) :
 s.TypeIs v T/\∀ a,v=.ref a->∃ ob,s.heap.get? a=some ob/\ob.dict=none:=by
 cases x with
 |str z =>
  obtain ⟨t,rfl⟩:=r
  cases (show T="str" from ty)
  exact ⟨typeIs_str s z t,fun _ e=>nomatch e⟩
 |int i =>
  obtain ⟨t,rfl⟩:=r
  cases (show T="int" from ty)
  exact ⟨typeIs_int s i t,fun _ e=>nomatch e⟩
 |ref p =>
  cases r
  rcases ty with ⟨rfl,xs,hq⟩|⟨rfl,o,hk,hc,hd⟩|⟨rfl,hk⟩|⟨rfl,S,n,hk⟩
  ·obtain ⟨its,_,pl,_⟩:=I.list hq
   refine ⟨pl.isList.typeIs,fun a e => ?_⟩
   cases e
   obtain ⟨o,n,e,c,hd,_⟩:=pl
   exact ⟨o,e,hd⟩
  ·refine ⟨⟨o,I.kIn p o hk,hc⟩,fun a e => ?_⟩
   cases e
   exact ⟨o,I.kIn _ o hk,hd⟩
  ·have z:∃ o,s.heap.get? p=some o/\o.ExactDict:=by
    rcases hk with ⟨kvs,hk⟩|⟨kvs,hk⟩
    ·obtain ⟨_,_,_,_,o,_,_,e,ex,_⟩:=I.hok p _ hk
     exact ⟨o,e,ex⟩
    ·obtain ⟨_,_,_,_,o,_,_,e,ex,_⟩:=I.hok p _ hk
     exact ⟨o,e,ex⟩
   obtain ⟨o,e,ex⟩:=z
   refine ⟨⟨o,e,ex.1⟩,fun a e2 => ?_⟩
   cases e2
   exact ⟨o,e,ex.2.1⟩
  ·obtain ⟨o,_,_,_,e,ex,_⟩:=I.hok p _ hk
   refine ⟨⟨o,e,ex.1⟩,fun a e2 => ?_⟩
   cases e2
   exact ⟨o,e,ex.2.1⟩
 |_=>exact False.elim ty
def KH (K:Frag) (T:String) (r:V->List V->Hp->VK->Prop) (to:TE):TE:=fun σ H Q=>to σ H fun x H1=>tyV K T x H1/\r x [] H1 Q
def tBM (K:Frag) (T:String) (r:V->List V->Hp->VK->Prop) (to:TE) (t:TA):TE:=fun σ H Q=>to σ H fun x H1=>tyV K T x H1/\t σ H1 fun xs H2=>r x xs H2 Q
variable {o e:Expr} {es:List Expr} {to:TE} {t:TA} {name:Str} {apos ji:Pos} {T id:String} {r:V->List V->Hp->VK->Prop}
theorem G7 (pa:PlainAttrs T) (slot:Slot T name id) (hty:typeOf (.builtin id)=pure (.type "method_descriptor")) (hm:MtR X id r) (ho:PE X o to)
 (uY:attributeBase o name X.env (eval o X.env)=eval o X.env:=by rfl) (uX:(apos.endLine==ji.line)=true:=by rfl):PE X (.Call (.Attribute o name apos) [] [] ji) (KH X.K T r to):=by
 intro pins s σ H Q I h
 refine wpAny_Call_method0_late uY uX (thn (ho pins s σ H _ I h) fun v s1 ⟨x,H1,I1,r1,ty,q1⟩ => ?_)
 obtain ⟨h1,h2⟩:=Kx I1 r1 ty
 exact ⟨T,id,pa,slot,hty,h1,h2,Calls.callWith_builtin rfl (PySem.evalArgs_none (hm pins s1 σ H1 x [] v [] Q I1 r1 .nil q1))⟩
theorem pR (pa:PlainAttrs T) (slot:Slot T name id) (hty:typeOf (.builtin id)=pure (.type "method_descriptor")) (hm:MtR X id r) (ho:PE X o to) (ha:PA X (e::es) t)
 (uY:attributeBase o name X.env (eval o X.env)=eval o X.env:=by rfl)
 (Nq:((backTo ji (starEach (e::es) X.env)).all (fun x => !x.1)&&(backToKw ji (keywordEach [] X.env)).all (fun x=>x.1.isSome)
   && decide ((e::es).length+([]:List Keyword).length+(if ([]:List Keyword).isEmpty then 0 else 1)<30))=true:=by rfl)
 (uX:(apos.endLine==ji.line)=true:=by rfl) (hs:starEach (e::es) X.env=(false,eval e X.env)::starEach es X.env:=by rfl) (Hu:(backTo ji (starEach es X.env)).any (·.1)=false:=by rfl) :
 PE X (.Call (.Attribute o name apos) (e::es) [] ji) (tBM X.K T r to t):=by
 intro pins s σ H Q I h
 refine wpAny_Call_method_late uY Nq uX rfl (thn (ho pins s σ H _ I h) fun v s1 ⟨x,H1,I1,r1,ty,q1⟩ => ?_)
 obtain ⟨h1,h2⟩:=Kx I1 r1 ty
 refine ⟨T,id,pa,slot,hty,h1,h2,?_⟩
 have hA:=ha ji pins s1 σ H1 _ I1 q1
 rw [hs] at hA ⊢
 refine Calls.callWith_builtin (by show (false || (backTo ji (starEach es X.env)).any (·.1))=false;rw [Hu]<;>rfl) (Calls.evalArgs_plain ?_)
 exact thn hA fun us s2 ⟨vs,H2,I2,r2,q2⟩=>hm pins s2 σ H2 x vs v us Q I2 r1 r2 q2
end
end L2
namespace L2
open PySem PySem.Spec PyProof.Rows
def MtM (X:Cx) (id:String) (r:V->List V->Hp->VK->Prop):Prop :=
 ∀ (pins:List (Addr×Obj)) (s:Shared) (σ : St) (H:Hp) (x:V) (xs:List V) (v:Value) (us:List Value) (Q:VK),Inv X pins σ H s->RelV x v->Vals xs us->r x xs H Q ->
  wpAny (model X.prog X.w) X.A (call (.builtin id) (v::us)) (EP X pins σ Q) X.xe s
theorem Vals.one:∀ {x:V} {us:List Value},Vals [x] us->∃ u,us=[u]/\RelV x u
 |_,_,.cons r .nil=>⟨_,rfl,r⟩
theorem Vals.zero:∀ {us:List Value},Vals [] us->us=[]
 |_,.nil=>rfl
theorem Vals.dropLast {xs:List V} {us:List Value} (h:Vals xs us):Vals xs.dropLast us.dropLast:=by
 induction h with
 |nil=>exact .nil
 |cons r t ih =>
  cases t with
  |nil=>exact .nil
  |cons q t'=>exact .cons r ih
theorem Vals.eraseIdx:∀ {xs:List V} {us:List Value} (i:Nat),Vals xs us->Vals (xs.eraseIdx i) (us.eraseIdx i)
 |_,_,_,.nil=>.nil
 |_,_,0,.cons _ t=>t
 |_,_,i+1,.cons r t=>.cons r (Vals.eraseIdx i t)
theorem HG {α : Type} (l:List α):l.eraseIdx (l.length-1)=l.dropLast:=by
 induction l with
 |nil=>rfl
 |cons a r ih =>
  cases r with
  |nil=>rfl
  |cons b r =>
   have e:(a::b::r).length-1=((b::r).length-1)+1:=by
    have h1:(a::b::r).length=r.length+2:=rfl
    have h2:(b::r).length=r.length+1:=rfl
    omega
   rw [e,List.eraseIdx_cons_succ,ih]
   all_goals rfl
theorem CQ {α : Type}:∀ (l:List α) (i:Nat),(l.eraseIdx i).length<=l.length
 | [],_=>ay _
 |_::_,0=>Nat.le_succ _
 |_::r,i+1=>Nat.succ_le_succ (CQ r i)
section
variable {X:Cx} {pins:List (Addr×Obj)} {σ : St} {H:Hp} {s:Shared} {l b:Addr} {xs ys zs:List V}
theorem Inv.Hj {its its':List Value} {n:Nat} {f:Array Value->Array Value} {t':Nat} (I:Inv X pins σ H s) (hH:H l=some (.lst xs))
 (e:s.heap.get? l=some {cls:=.type "list",data:=.seq its.toArray n}) (hf:f its.toArray=its'.toArray) (hv:Vals ys its') (hz:ys.length<=sizeLine) :
 Inv X pins σ (upd H l (.lst ys)) {s with heap:=s.heap.update l (Obj.mapSeq f),toks:=t' }:=by
 have q:=PySem.IsL.update e f
 rw [hf] at q
 refine I.write (x:=l) (e:=l) (by rw [hH];exact trivial) (.inl rfl) (fun b' u hb hu=>(je s.heap (Obj.mapSeq f) (Ne.symm hb)).trans hu) ⟨_,q⟩ ?_
 exact ⟨hz,its',_,hv,q⟩
theorem Inv.Ss {its:List Value} {t':Nat} (I:Inv X pins σ H s) (hv:Vals ys its) (hz:ys.length<=sizeLine) :
 Inv X pins σ (upd H s.heap.objs.size (.lst ys)) {s with heap:=s.heap.push {cls:=.type "list",data:=.seq its.toArray},toks:=t' } :=
 I.laid (fun _ _ q=>aH _ q) (ay _) ⟨hz,its,0,hv,bc _ rfl⟩
theorem Inv.fresh (I:Inv X pins σ H s):H s.heap.objs.size=none:=I.hok.fresh (ay _)
theorem Inv.xZ (I:Inv X pins σ H s) (hH:H l=some (.lst xs)):xs.length<=sizeLine/\∃ (its:List Value) (n:Nat),Vals xs its/\xs.length=its.length/\s.heap.get? l=some {cls:=.type "list",data:=.seq its.toArray n}:=by
 obtain ⟨z,its,n,r,e⟩:=I.hok l _ hH
 exact ⟨z,its,n,r,r.length,e⟩
theorem FJ {n:Nat} (h:n<=sizeLine):Builtin.List.listTooLong n=false:=by
 unfold Builtin.List.listTooLong
 exact decide_eq_false (by omega)
end
section
variable {X:Cx}
def dR:V->List V->Hp->VK->Prop:=fun x vs H Q=>∃ l xs y,x=.ref l/\vs=[y]/\H l=some (.lst xs)/\xs.length<sizeLine/\Q .non (upd H l (.lst (xs++[y])))
theorem JP:MtM X "list.append" dR:=by
 intro pins s σ H x vs v us Q I rx rv h
 obtain ⟨l,xs,y,rfl,rfl,hH,hz,q⟩:=h
 cases rx
 obtain ⟨u,rfl,ru⟩:=rv.one
 obtain ⟨z,its,n,r,hl,e⟩:=I.xZ hH
 refine call_meets F.slot_list_append ⟨_,e,rfl⟩ F.entry_list_append (F.args_list_append_2 _ _) (PySem.list_append l its.toArray n u (by rw [aL];omega)) ⟨e,?_⟩
 refine ⟨.non,_,I.Hj (its':=its++[u]) hH e (by simp) (r.append (.cons ru .nil)) ?_,rfl,q⟩
 rw [aG,cg]
 omega
def uL:V->List V->Hp->VK->Prop:=fun x vs H Q=>∃ l b xs zs,x=.ref l/\vs=[.ref b]/\H l=some (.lst xs)/\H b=some (.lst zs)/\xs.length+zs.length<=sizeLine/\Q .non (upd H l (.lst (xs++zs)))
theorem wj:MtM X "list.extend" uL:=by
 intro pins s σ H x vs v us Q I rx rv h
 obtain ⟨l,b,xs,zs,rfl,rfl,hH,hB,hz,q⟩:=h
 cases rx
 obtain ⟨u,rfl,ru⟩:=rv.one
 cases ru
 obtain ⟨z,its,n,r,hl,e⟩:=I.xZ hH
 obtain ⟨z2,rP,n2,r2,hl2,e2⟩:=I.xZ hB
 have hsz:its.toArray.size+rP.toArray.size<=sizeLine:=by rw [aL,aL];omega
 have LG:¬(!its.toArray.isEmpty&&Builtin.List.listTooLong (its.toArray.size+rP.toArray.size))=true:=by
  rw [FJ hsz,Bool.and_false]
  exact aV
 refine call_meets F.slot_list_extend ⟨_,e,rfl⟩ F.entry_list_extend (F.args_list_extend_2 _ _)
  (AutoSeq1.list_extend_list_list_0 l its.toArray n b rP.toArray n2 LG (by rw [aL];omega) (by omega)) ⟨e,e2,?_⟩
 refine ⟨.non,_,I.Hj (its':=its++rP) hH e (by simp) (r.append r2) ?_,rfl,q⟩
 rw [aG]
 omega
def Q3:V->List V->Hp->VK->Prop:=fun x vs H Q=>∃ l xs y,x=.ref l/\vs=[]/\H l=some (.lst xs)/\xs[xs.length-1]? = some y/\Q y (upd H l (.lst xs.dropLast))
theorem Pe:MtM X "list.pop" Q3:=by
 intro pins s σ H x vs v us Q I rx rv h
 obtain ⟨l,xs,y,rfl,rfl,hH,hy,q⟩:=h
 cases rx
 have hus:=rv.zero
 subst hus
 obtain ⟨z,its,n,r,hl,e⟩:=I.xZ hH
 obtain ⟨u,hu,ru⟩:=r.get hy
 have hy':its.toArray[its.toArray.size-1]? = some u:=by
  show its.toArray[its.length-1]? = some u
  rw [<-Array.getElem?_toList,<-hl]
  exact hu
 refine call_meets F.slot_list_pop ⟨_,e,rfl⟩ F.entry_list_pop (F.args_list_pop_1 _) (MeetsSeq.list_pop_last l its.toArray n u hy' (by rw [aL];omega)) ⟨e,?_⟩
 refine ⟨y,_,I.Hj (its':=its.dropLast) hH e ?_ r.dropLast ?_,ru,q⟩
 ·show its.toArray.eraseIdxIfInBounds (its.toArray.size-1)=its.dropLast.toArray
  rw [aL,List.eraseIdxIfInBounds_toArray,HG]
 ·rw [List.length_dropLast]
  omega
def DZ:V->List V->Hp->VK->Prop:=fun x vs H Q=>∃ l xs i k y,x=.ref l/\vs=[.int i]/\H l=some (.lst xs)/\-(2 ^ 63)<=i/\i<2 ^ 63/\seqIndex? i xs.length=some k/\xs[k]? = some y/\Q y (upd H l (.lst (xs.eraseIdx k)))
theorem FO:MtM X "list.pop" DZ:=by
 intro pins s σ H x vs v us Q I rx rv h
 obtain ⟨l,xs,i,k,y,rfl,rfl,hH,h1,h2,hk,hy,q⟩:=h
 cases rx
 obtain ⟨u,rfl,ru⟩:=rv.one
 obtain ⟨t,rfl⟩:=ru
 obtain ⟨z,its,n,r,hl,e⟩:=I.xZ hH
 obtain ⟨w,hw,rw'⟩:=r.get hy
 refine call_meets F.slot_list_pop ⟨_,e,rfl⟩ F.entry_list_pop (F.args_list_pop_2 _ _)
  (MeetsSeq.list_pop_at l its.toArray n i t k w (fitsIndex_both h1 h2) (by rw [aL,<-hl];exact hk) (by rw [<-Array.getElem?_toList];exact hw) (by rw [aL];omega)) ⟨e,?_⟩
 refine ⟨y,_,I.Hj (its':=its.eraseIdx k) hH e ?_ (r.eraseIdx k) ?_,rw',q⟩
 ·show its.toArray.eraseIdxIfInBounds k=(its.eraseIdx k).toArray
  rw [List.eraseIdxIfInBounds_toArray]
 ·have:=CQ xs k
  omega
def O1:R2:=fun x y H Q=>∃ l b xs zs,x=.ref l/\y=.ref b/\H l=some (.lst xs)/\H b=some (.lst zs)/\xs.length+zs.length<=sizeLine/\∀ p,H p=none->Q (.ref p) (upd H p (.lst (xs++zs)))
theorem Pa:OpR X (binaryOp .Add) O1:=by
 intro pins s σ H x y v u Q I rx ry h
 obtain ⟨l,b,xs,zs,rfl,rfl,hH,hB,hz,q⟩:=h
 cases rx
 cases ry
 obtain ⟨z,its,n,r,hl,e⟩:=I.xZ hH
 obtain ⟨z2,rP,n2,r2,hl2,e2⟩:=I.xZ hB
 refine PySem.P.add_list e e2 ?_ (by rw [aL,aL];omega)
 have ea:its.toArray++rP.toArray=(its++rP).toArray:=by simp
 rw [ea]
 exact ⟨.ref _,_,I.Ss (t':=s.toks) (r.append r2) (by rw [aG];omega),rfl,q _ I.fresh⟩
end
section
variable {prog:Program} {w:World} {A:Around} {E:Value->Shared->Prop} {s:Shared}
end
section
variable {X:Cx}
end
end L2
namespace L2
open PySem PySem.Spec PyProof.Rows
theorem Vals.ints:∀ {ns:List Int} {us:List Value},Vals (ns.map V.int) us->IntsAre us ns
 | [],us,h=>by
  rw [List.map_nil] at h
  cases h
  exact IntsAre.nil
 |n::ns,us,h=>by
  rw [aW] at h
  cases h with
  |cons r t =>
   obtain ⟨k,rfl⟩:=r
   exact IntsAre.cons n k (Vals.ints t)
theorem ui:∀ {us:List Value} {ns:List Int},IntsAre us ns->Vals (ns.map V.int) us
 |_,_,.nil=>by rw [List.map_nil];exact Paired.nil
 |_,_,.cons n t h=>by rw [aW];exact Paired.cons (show RelV (V.int n) (Value.int n t) from ⟨t,rfl⟩) (ui h)
theorem Vals.bls:∀ {bs:List Bool} {us:List Value},Vals (bs.map V.bl) us->us=bs.map Value.bool
 | [],us,h=>by
  rw [List.map_nil] at h
  cases h
  rfl
 |b::bs,us,h=>by
  rw [aW] at h
  cases h with
  |cons r t =>
   cases r
   rw [Vals.bls t,aW]
theorem Vals.OY {a:Addr} {us:List Value} (r:Vals [V.ref a] us):us=[Value.ref a]:=by
 cases r with
 |cons r t =>
  cases t
  cases r
  rfl
section
variable {prog:Program} {w:World} {A:Around} {E:Value->Shared->Prop} {s:Shared} {l:Addr} {its:List Value} {ns:List Int} {Q:Value->Shared->Prop}
theorem Mz (hh:A.handled=none) (hl:s.heap.IsList l its.toArray) (hi:IntsAre its ns)
 (h:∀ h' tk t',(∀ b o,s.heap.get? b=some o->h'.get? b=some o)->Q (.int ns.sum t') {s with heap:=h',toks:=tk}):wpAny (model prog w) A (call (.builtin "sum") [.ref l]) Q E s:=by
 obtain ⟨xs,e⟩:=hi.allInts.items
 have hn:numsOf (intItems xs).toList=ns:=by rw [<-e];exact hi.numsOf
 rw [nums_intItems] at hn
 rw [e] at hl
 refine PySem.sum_intListG hh hl fun h' tk t' hk => ?_
 have:=h h' tk t' hk
 rw [preSum_eq,a8 (by simp),hn];exact this
end
section
variable {X:Cx}
def O0 (K:Frag):List V->Hp->VK->Prop:=fun vs H Q=>∃ (a:Addr) (ns:List Int),vs=[V.ref a]/\SqL K H a (ns.map V.int)/\Q (.int ns.sum) H
theorem Qa (hc:X.calm=true):xH X (.builtin "sum") (O0 X.K):=by
 intro pins s σ H vs us Q I r h
 obtain ⟨a,ns,rfl,hs,q⟩:=h
 obtain ⟨its,rv,hl,_⟩:=I.list hs
 rw [Vals.OY r]
 exact Mz (I.ok.hd hc) hl.isList rv.ints fun h' tk t' hk=>⟨.int _,H,I.kept hk,⟨_,rfl⟩,q⟩
theorem DK {n:Nat} (h:n<64):n<=sizeLine:=by rw [sizeLine_eq];omega
end
section
variable {X:Cx}
end
section
variable {X:Cx}
end
theorem Lz {prog:Program} {w:World} {A:Around} {E:Value->Shared->Prop} {s:Shared} {l:Addr} {items:Array Value} {Q:Value->Shared->Prop} (hl:s.heap.IsList l items)
 (h:∀ s₂ : Shared,s₂ = {s with heap:=s.heap.push {cls:=.type "list_iterator",data:=.fields #[.ref l,.int 0 0]} } ->
   (s₂.heap.IsListIter s.heap.objs.size l 0/\s₂.heap.IsList l items)->l≠s.heap.objs.size->Q (.ref s.heap.objs.size) s₂):wpAny (model prog w) A (pyIter (.ref l)) Q E s:=by
 have hlt:l<s.heap.objs.size:=by obtain ⟨_,e,_⟩:=hl;exact aI e
 exact wpAny_pyIter_list hl (h _ rfl ⟨⟨_,bc _ rfl,rfl,rfl⟩,hl.push _⟩ (bD hlt))
theorem E2 {prog:Program} {w:World} {A:Around} {bs:List Bool} {its:List Value} (e:its=bs.map Value.bool) :
 TruthOf prog w A (fun i v=>its.toArray[i]? = some v) (fun i=>bs.getD i false):=fun i v s Q E hv hq=>by
 have hv':its[i]? = some v:=by simpa using hv
 rw [e,a9] at hv'
 obtain ⟨b,hb,rfl⟩:=oe.mp hv'
 have hg:bs.getD i false=b:=by rw [List.getD_eq_getElem?_getD,hb]<;>rfl
 have hq':Q (bs.getD i false) s:=hq
 rw [hg] at hq'
 exact wpAny_truthy_bool hq'
theorem any_range:∀ bs:List Bool,(List.range bs.length).any (fun i=>bs.getD i false)=bs.any id
 | []=>rfl
 |b::bs=>by
  rw [bM,List.range_succ_eq_map,xo,List.any_map,xo,<-any_range bs]
  all_goals rfl
section
variable {X:Cx}
def MK (K:Frag):List V->Hp->VK->Prop:=fun vs H Q=>∃ (a:Addr) (bs:List Bool),vs=[V.ref a]/\SqL K H a (bs.map V.bl)/\Q (.bl (bs.any id)) H
theorem LW (hc:X.calm=true):xH X (.builtin "any") (MK X.K):=by
 intro pins s σ H vs us Q I r h
 obtain ⟨a,bs,rfl,hs,q⟩:=h
 obtain ⟨its,rv,hl,_⟩:=I.list hs
 rw [Vals.OY r]
 have hb:=rv.bls
 refine call_any_walk (Lz hl.isList fun s₂ e2 st hne => ?_)
 subst e2
 refine ⟨_,_,_,_,_,_,_,rfl,Walks.list (A:=X.A.in1) (I.ok.hd hc) _ a hne its.toArray,st,E2 hb,fun h' tk hk => ?_⟩
 refine ⟨.bl _,H,I.kept fun b o eo=>hk b o (fun Pz => ?_) (aH _ eo),?_,q⟩
 ·rcases ae.mp Pz with e1|Pz
  ·exact absurd (e1 ▸ aI eo) (dZ _)
  ·cases Pz
 ·show Value.bool _=Value.bool _
  rw [<-any_range,hb,aL,ab]
end
mutual
inductive Dp (K:Frag) (H:Hp):V->PyData->Prop
 |non:Dp K H .non .none
 |bl (b:Bool):Dp K H (.bl b) (.bool b)
 |int (i:Int):Dp K H (.int i) (.int i)
 |str (x:Str):Dp K H (.str x) (.str x)
 |lst {a:Addr} {xs:List V} {ds:List PyData}:SqL K H a xs->AU K H xs ds->Dp K H (.ref a) (.list ds)
 |tup {a:Addr} {xs:List V} {ds:List PyData}:SqT K H a xs->AU K H xs ds->Dp K H (.ref a) (.tuple ds)
inductive AU (K:Frag) (H:Hp):List V->List PyData->Prop
 |nil:AU K H [] []
 |cons {v:V} {vs:List V} {d:PyData} {ds:List PyData}:Dp K H v d->AU K H vs ds->AU K H (v::vs) (d::ds)
end
section
variable {X:Cx} {pins:List (Addr×Obj)} {σ : St} {H:Hp} {s:Shared}
mutual
theorem Dp.reads (I:Inv X pins σ H s):∀ (d:PyData) (v:V) (u:Value),Dp X.K H v d->RelV v u->∃ as,Reads s.heap u d as
 |.none,_,_,h,r=>by
  cases h
  cases r
  exact ⟨_,Reads.none⟩
 |.bool b,_,_,h,r=>by
  cases h
  cases r
  exact ⟨_,Reads.bool b⟩
 |.int i,_,_,h,r=>by
  cases h
  obtain ⟨t,rfl⟩:=r
  exact ⟨_,Reads.int i t⟩
 |.str x,_,_,h,r=>by
  cases h
  obtain ⟨t,rfl⟩:=r
  exact ⟨_,Reads.str x t⟩
 |.list ds,_,_,h,r=>by
  cases h with
  |lst hs ha =>
   cases r
   obtain ⟨its,rv,⟨o,n,ho,hc,_,hd⟩,_⟩:=I.list hs
   obtain ⟨as,hr⟩:=Dp.readsAll I ds _ its ha rv
   exact ⟨_,Reads.list ho hc hd hr⟩
 |.tuple ds,_,_,h,r=>by
  cases h with
  |tup hs ha =>
   cases r
   obtain ⟨its,rv,⟨o,ho,hc,n,hd⟩,_⟩:=I.tuple hs
   obtain ⟨as,hr⟩:=Dp.readsAll I ds _ its ha rv
   exact ⟨_,Reads.tuple ho hc hd hr⟩
 |.dict _,_,_,h,_=>by cases h
theorem Dp.readsAll (I:Inv X pins σ H s):∀ (ds:List PyData) (vs:List V) (us:List Value),AU X.K H vs ds->Vals vs us->∃ as,ReadsAll s.heap us ds as
 | [],_,_,h,r=>by
  cases h
  cases r
  exact ⟨_,ReadsAll.nil⟩
 |d::ds,_,_,h,r=>by
  cases h with
  |cons h1 h2 =>
   cases r with
   |cons r1 r2 =>
    obtain ⟨as,q1⟩:=Dp.reads I d _ _ h1 r1
    obtain ⟨bs,q2⟩:=Dp.readsAll I ds _ _ h2 r2
    exact ⟨_,ReadsAll.cons q1 q2⟩
end
end
section
variable {X:Cx}
def Q4 (K:Frag):R2:=fun x y H Q=>∃ d e,Dp K H x d/\Dp K H y e/\SeqAt.shaped d=true/\SeqAt.shaped e=true/\Q (.bl (PyData.eqv d e)) H
theorem O9 (hu:X.A.units+64<cLine):OpR X (compareOp .Eq) (Q4 X.K):=by
 intro pins s σ H x y v u Q I rx ry h
 obtain ⟨d,e,hd,he,sd,se,q⟩:=h
 obtain ⟨as,r1⟩:=Dp.reads I d x v hd rx
 obtain ⟨bs,r2⟩:=Dp.reads I e y u he ry
 exact SeqAt.compareEq_shaped r1 r2 sd se hu ⟨.bl _,H,I,rfl,q⟩
end
end L2
namespace L2
open PySem PySem.Spec PyProof.Rows
abbrev Me (h:Heap) (c:Addr) (v:Option Value):Prop:=h.IsCell c v
def Sl (scope sc:Scope):Scope :=
 {scope with names:=scope.names.map fun (n,k)=>if (k == .free&&sc.kind == .function&&sc.names.lookup n==some .cell) then (n,.cell) else (n,k)}
def dD (cells:List (Str×Addr)):List (Str×NameKind)->List (Str×Addr)->List (Str×Addr)
 | [],acc=>acc
 | (n,k)::r,acc=>if k == .free then dD cells r ((n,(cells.lookup n).getD 0)::acc) else dD cells r acc
theorem vd (env:Env) (f:Str×NameKind->List (Str×Addr)->Sem (ForInStep (List (Str×Addr))))
 (hf:∀ n k c,f (n,k) c=if k == .free then (do let a <-cellOf env n;pure (.yield ((n,a)::c))) else pure (.yield c)) :
 ∀ (names:List (Str×NameKind)) (acc:List (Str×Addr)),(∀ y∈names,y.2=.free->∃ c,env.cells.lookup y.1=some c)->forIn names acc f=pure (dD env.cells names acc)
 | [],acc,_=>by rw [List.forIn_nil];rfl
 | (n,k)::r,acc,h=>by
  rw [List.forIn_cons,hf]
  have ih:=fun acc=>vd env f hf r acc fun y hy=>h y (ba _ hy)
  unfold dD
  by_cases hk:(k==NameKind.free)=true
  ·rw [if_pos hk,if_pos hk]
   obtain ⟨c,hc⟩:=h (n,k) bY (by simpa using hk)
   have e:cellOf env n=pure c:=by unfold cellOf;rw [hc]
   rw [e]
   have e2:(env.cells.lookup n).getD 0=c:=by rw [hc];rfl
   rw [e2]
   exact ih _
  ·rw [if_neg hk,if_neg hk]
   exact ih _
theorem HJ {scope:Scope} {env:Env} (h:∀ y∈scope.names,y.2=.free->∃ c,env.cells.lookup y.1=some c):closureFor scope env=pure (dD env.cells scope.names []):=by
 simp only [closureFor]
 rw [vd env _ (fun n k c=>rfl) scope.names [] h]
 rfl
theorem mem_lookup {α : Type}:∀ {l:List (Str × α)} {n:Str} {c : α},(n,c)∈l->∃ c',l.lookup n=some c'
 | (k,v)::r,n,c,h=>by
  rw [iw]
  cases hb:n==k with
  |true=>exact ⟨_,rfl⟩
  |false =>
   rcases ae.mp h with e|h
   ·cases e;simp at hb
   ·exact mem_lookup h
theorem mZ {cells:List (Str×Addr)}:∀ {names:List (Str×NameKind)} {acc:List (Str×Addr)} {n:Str} {c:Addr},(n,c)∈dD cells names acc->(n,c)∈acc\/((n,.free)∈names/\c=(cells.lookup n).getD 0)
 | [],_,_,_,h=>.inl h
 | (m,k)::r,acc,n,c,h=>by
  unfold dD at h
  split at h
  ·rename_i hk
   have hk:k=.free:=by simpa using hk
   rcases mZ h with h|⟨h1,h2⟩
   ·rcases ae.mp h with e|h
    ·cases e;exact .inr ⟨hk ▸ bY,rfl⟩
    ·exact .inl h
   ·exact .inr ⟨ba _ h1,h2⟩
  ·rcases mZ h with h|⟨h1,h2⟩
   ·exact .inl h
   ·exact .inr ⟨ba _ h1,h2⟩
theorem qG {cells:List (Str×Addr)}:∀ {names:List (Str×NameKind)} {acc:List (Str×Addr)} {p:Str×Addr},p∈acc->p∈dD cells names acc
 | [],_,_,h=>h
 | (m,k)::r,acc,p,h=>by
  unfold dD
  split
  ·exact qG (ba _ h)
  ·exact qG h
theorem qE {cells:List (Str×Addr)}:∀ {names:List (Str×NameKind)} {acc:List (Str×Addr)} {n:Str},(n,.free)∈names->(n,(cells.lookup n).getD 0)∈dD cells names acc
 | (m,k)::r,acc,n,h=>by
  unfold dD
  rcases ae.mp h with e|h
  ·cases e
   exact qG bY
  ·split
   ·exact qE h
   ·exact qE h
theorem oG:∀ {names:List (Str×NameKind)} {h:Heap} {acc:List (Str×Addr)} {x:Str} {c:Addr},(x,c)∈cellsFrom h.objs.size names acc ->
 (x,c)∈acc\/((x,.cell)∈names/\h.objs.size<=c/\Me (pushCells h names) c none)
 | [],_,_,_,_,h=>.inl h
 | (n,k)::r,h,acc,x,c,hm=>by
  unfold cellsFrom at hm
  unfold pushCells
  split at hm
  ·rename_i hk
   rw [if_pos hk]
   have hk:k=.cell:=by simpa using hk
   rw [<-cR h {cls:=.type "cell",data:=.cell none}] at hm
   rcases oG hm with hm|⟨h1,h2,h3⟩
   ·rcases ae.mp hm with e|hm
    ·cases e
     exact .inr ⟨hk ▸ bY,ay _,_,pushCells_keeps r _ _ _ (bc _ rfl),rfl⟩
    ·exact .inl hm
   ·rw [cR] at h2
    exact .inr ⟨ba _ h1,vF h2,h3⟩
  ·rename_i hk
   rw [if_neg hk]
   rcases oG hm with hm|⟨h1,h2,h3⟩
   ·exact .inl hm
   ·exact .inr ⟨ba _ h1,h2,h3⟩
theorem rn:∀ {names:List (Str×NameKind)} {n:Nat} {acc:List (Str×Addr)} {p:Str×Addr},p∈acc->p∈cellsFrom n names acc
 | [],_,_,_,h=>h
 | (m,k)::r,n,acc,p,h=>by
  unfold cellsFrom
  split
  ·exact rn (ba _ h)
  ·exact rn h
theorem wG:∀ {names:List (Str×NameKind)} {n:Nat} {acc:List (Str×Addr)} {x:Str},(x,.cell)∈names->∃ c,(x,c)∈cellsFrom n names acc
 | (m,k)::r,n,acc,x,h=>by
  unfold cellsFrom
  rcases ae.mp h with e|h
  ·cases e
   exact ⟨n,rn bY⟩
  ·split
   ·exact wG h
   ·exact wG h
theorem wF:∀ {names:List (Str×NameKind)} {h:Heap} {acc:List (Str×Addr)} {x y:Str} {c:Addr},(∀ p∈acc,p.2<h.objs.size)->(∀ x y c,(x,c)∈acc->(y,c)∈acc->x=y) ->
 (x,c)∈cellsFrom h.objs.size names acc->(y,c)∈cellsFrom h.objs.size names acc->x=y
 | [],_,_,_,_,_,_,hi,h1,h2=>hi _ _ _ h1 h2
 | (n,k)::r,h,acc,x,y,c,hl,hi,h1,h2=>by
  unfold cellsFrom at h1 h2
  split at h1
  ·rename_i hk
   rw [if_pos hk] at h2
   rw [<-cR h {cls:=.type "cell",data:=.cell none}] at h1 h2
   refine wF (h:=h.push _) (fun p hp => ?_) (fun x y c a b => ?_) h1 h2
   ·rw [cR]
    rcases ae.mp hp with rfl|hp
    ·exact fL _
    ·exact Nat.lt_succ_of_lt (hl p hp)
   ·rcases ae.mp a with e|a<;>rcases ae.mp b with e'|b
    ·cases e;cases e';rfl
    ·cases e;exact absurd (hl _ b) (dZ _)
    ·cases e';exact absurd (hl _ a) (dZ _)
    ·exact hi _ _ _ a b
  ·rename_i hk
   rw [if_neg hk] at h2
   exact wF hl hi h1 h2
theorem FN {M:Model} {A:Around} {E:Value->Shared->Prop} {s:Shared} {scope:Scope} {globals:Addr} {closure:List (Str×Addr)} {qual:Str} {func:Option Addr} {code:Value} {around:Env} {builtins:Addr} {Q:Env->Shared->Prop}
 (h:Q (newEnv scope s.heap.objs.size globals (cellsFrom (s.heap.objs.size+1) scope.names closure) qual func code (some around) builtins)
   {s with heap:=pushCells (s.heap.push {cls:=.type "dict",data:=.dict #[]}) scope.names}) :
 wpAny M A (newFunctionEnv scope globals closure [] qual func code (some around) builtins) Q E s:=by
 simp only [newFunctionEnv,Option.isSome_some,if_true]
 refine wpAny_bind (wpAny_alloc ?_)
 refine wpAny_bind (wpAny_layCells _ (fun n k c=>rfl) scope.names closure _ _ ?_)
 rw [show ({s with heap:=s.heap.push {cls:=.type "dict",data:=.dict #[]} }:Shared).heap.objs.size=s.heap.objs.size+1 from cR ..]
 rw [List.forIn_nil]
 exact wpAny_bind (wpAny_pure (wpAny_pure h))
theorem qB {sc:Scope}:∀ {names:List (Str×NameKind)} {x:Str} {k:NameKind},
 (names.map fun (n,k)=>if (k==NameKind.free&&sc.kind == .function&&sc.names.lookup n==some .cell) then (n,NameKind.cell) else (n,k)).lookup x=some k ->
 ∃ k',names.lookup x=some k'/\(k=k'\/(k'=.free/\k=.cell))
 | [],_,_,h=>by simp at h
 | (n,k₀)::r,x,k,h=>by
  have ih:=@qB sc r x k
  have h':List.lookup x ((if (k₀ == NameKind.free&&sc.kind == .function&&sc.names.lookup n==some .cell)=true then (n,NameKind.cell) else (n,k₀))::(r.map _))=some k:=h
  cases hx:x==n with
  |true =>
   simp only [iw,hx]
   by_cases hc:(k₀ == NameKind.free&&sc.kind == .function&&sc.names.lookup n==some .cell)=true
   ·rw [if_pos hc] at h'
    simp only [iw,hx] at h'
    cases h'
    simp only [aE,beq_iff_eq] at hc
    exact ⟨k₀,rfl,.inr ⟨hc.1.1,rfl⟩⟩
   ·rw [if_neg hc] at h'
    simp only [iw,hx] at h'
    cases h'
    exact ⟨_,rfl,.inl rfl⟩
  |false =>
   simp only [iw,hx]
   by_cases hc:(k₀ == NameKind.free&&sc.kind == .function&&sc.names.lookup n==some .cell)=true
   ·rw [if_pos hc] at h'
    simp only [iw,hx] at h'
    exact ih h'
   ·rw [if_neg hc] at h'
    simp only [iw,hx] at h'
    exact ih h'
structure Ji (N:List Str) (sc scope:Scope) (own:List (Str×Nat)):Prop where
 kind:scope.kind=.function
 uniq:∀ y∈scope.names,scope.names.lookup y.1=some y.2
 ix:∀ p∈own,N[p.2]? = some p.1
 free:∀ y∈scope.names,y.2=.free->sc.names.lookup y.1=some .cell\/sc.names.lookup y.1=some .free
 own:∀ y∈scope.names,y.2=.local\/y.2=.cell->y.1∈own.map (·.1)\/y.1∉N
def wipe (σ : St):List Nat->St
 | [] => σ
 |v::vs=>(wipe σ vs).set v none
theorem pX (σ : St):∀ vs:List Nat,(wipe σ vs).length = σ.length
 | []=>rfl
 |v::vs=>by unfold wipe;rw [List.length_set,pX σ vs]
theorem vG {σ : St} {i:Nat} {x:V}:∀ {vs:List Nat},(wipe σ vs)[i]? = some (some x) -> σ[i]? = some (some x)/\i∉vs
 | [],h=>⟨h,by simp⟩
 |v::vs,h=>by
  unfold wipe at h
  by_cases hi:v=i
  ·subst hi
   by_cases hv:v<(wipe σ vs).length
   ·rw [List.getElem?_set_self hv] at h;cases h
   ·rw [eR (by simpa using hv)] at h;cases h
  ·rw [List.getElem?_set_ne hi] at h
   obtain ⟨h1,h2⟩:=vG h
   exact ⟨h1,by simp only [ae,not_or];exact ⟨fun e=>hi e.symm,h2⟩⟩
abbrev Cx.blk (X:Cx) (s:Shared) (H:Hp) (scope:Scope) (jj:Env) (fp:List Addr):Cx:={X with s_0:=s,H_0:=H,env:=jj,outer:=X.stack,ex:=fp,fn:=fun x=>scope.names.lookup x==some .cell,pn:=[],xe:=fun _ _=>False}
section
variable {X:Cx} {pins:List (Addr×Obj)} {σ : St} {H:Hp} {s:Shared}
theorem Gj {scope:Scope} {own:List (Str×Nat)} {fp:List Addr} (I:Inv X pins σ H s) (ok:Ji X.N X.env.scope scope own) (hN:X.N.Nodup) (hfp:∀ b∈fp,ue X pins H b/\b<s.heap.objs.size) :
 Inv (X.blk s H scope (compEnvC scope (cellsFrom (s.heap.objs.size+1) scope.names (dD X.env.cells scope.names [])) s.heap.objs.size X.env) fp) [] (wipe σ (own.map (·.2))) H {s with heap:=pushCells (s.heap.push {cls:=.type "dict",data:=.dict #[]}) scope.names}:=by
 have CW:∀ y∈scope.names,y.2=.free->∃ c,X.env.cells.lookup y.1=some c:=fun y hy e=>by
  rcases ok.free y hy e with k|k
  ·exact I.ok.has _ (.inl k)
  ·exact I.ok.has _ (.inr k)
 generalize F1:compEnvC scope (cellsFrom (s.heap.objs.size+1) scope.names (dD X.env.cells scope.names [])) s.heap.objs.size X.env=jj
 have kp:∀ b o,s.heap.get? b=some o->(pushCells (s.heap.push {cls:=.type "dict",data:=.dict #[]}) scope.names).get? b=some o:=fun b o e=>pushCells_keeps _ _ _ _ (aH _ e)
 have hL:jj.locals=s.heap.objs.size:=by rw [<-F1];rfl
 have hcl:jj.cells=cellsFrom (s.heap.objs.size+1) scope.names (dD X.env.cells scope.names []):=by rw [<-F1];rfl
 have hsc:jj.scope=Sl scope X.env.scope:=by rw [<-F1];rfl
 rw [<-cR s.heap {cls:=.type "dict",data:=.dict #[]}] at hcl
 have cm:∀ {y c},(y,c)∈dD X.env.cells scope.names []->X.env.cells.lookup y=some c/\c<s.heap.objs.size:=fun {y c} hm=>by
  rcases mZ hm with hm|⟨h1,rfl⟩
  ·cases hm
  ·obtain ⟨c,hc⟩:=CW _ h1 rfl
   rw [hc]
   obtain ⟨w,z⟩:=I.cell _ _ hc
   exact ⟨rfl,z.lt⟩
 have mem:∀ {y c},jj.cells.lookup y=some c->(X.env.cells.lookup y=some c/\c<s.heap.objs.size)\/(s.heap.objs.size+1<=c/\Me (pushCells (s.heap.push {cls:=.type "dict",data:=.dict #[]}) scope.names) c none):=fun {y c} e=>by
  rw [hcl] at e
  rcases oG (bC e) with hm|⟨_,h2,h3⟩
  ·exact .inl (cm hm)
  ·rw [cR] at h2;exact .inr ⟨h2,h3⟩
 have look:∀ {y},scope.names.lookup y=some .free->∃ c,jj.cells.lookup y=some c/\X.env.cells.lookup y=some c:=fun {y} hl=>by
  have hy:(y,NameKind.free)∈scope.names:=bC hl
  obtain ⟨c',e'⟩:=mem_lookup (rn (names:=scope.names) (n:=(s.heap.push {cls:=.type "dict",data:=.dict #[]}).objs.size) (qE (cells:=X.env.cells) (acc:=[]) hy))
  rw [<-hcl] at e'
  refine ⟨c',e',?_⟩
  rw [hcl] at e'
  rcases oG (bC e') with hm|⟨h1,_,_⟩
  ·exact (cm hm).1
  ·have:=ok.uniq _ h1
   rw [hl] at this;cases this
 have okB:(X.blk s H scope jj fp).Ok:=by
  refine ⟨I.ok.mod,by show jj.scope.kind=_;rw [hsc];exact ok.kind,by show jj.globals=_;rw [<-F1];exact I.ok.glob,by show jj.builtins=_;rw [<-F1];exact I.ok.blt,by show s.heap.objs.size<=jj.locals;rw [hL];exact ay _,
   fun y z c e1 e2 => ?_,fun y hy => ?_,fun y c z e => ?_,I.ok.hd,I.ok.frames,.inl rfl,fun b hb=>⟨?_,fun y c e z => ?_⟩,I.bs,bB I.ok.bsz I.sz,fun b o e hb => ?_,fun b hb z => ?_,I.stack,I.Iq⟩
  ·have e1:jj.cells.lookup y=some c:=e1
   have e2:jj.cells.lookup z=some c:=e2
   rw [hcl] at e1 e2
   refine wF (fun p hp => ?_) (fun y z c a b=>I.ok.inj y z c (cm a).1 (cm b).1) (bC e1) (bC e2)
   rw [cR]
   exact Nat.lt_succ_of_lt (cm (y:=p.1) (c:=p.2) hp).2
  ·show ∃ c,jj.cells.lookup y=some c
   have key:∀ k,jj.kindOf y=some k->(k=.cell\/k=.free)->∃ c,jj.cells.lookup y=some c:=fun k hk hk'=>by
    unfold Env.kindOf at hk
    rw [hsc] at hk
    obtain ⟨k',e,r⟩:=qB hk
    have:k'=.cell\/k'=.free:=by
     rcases r with rfl|⟨rfl,_⟩
     ·exact hk'
     ·exact .inr rfl
    rcases this with rfl|rfl
    ·obtain ⟨c,hm⟩:=wG (n:=(s.heap.push {cls:=.type "dict",data:=.dict #[]}).objs.size) (acc:=dD X.env.cells scope.names []) (bC e)
     obtain ⟨c',e'⟩:=mem_lookup hm
     exact ⟨c',by rw [hcl];exact e'⟩
    ·obtain ⟨c,h1,_⟩:=look e
     exact ⟨c,h1⟩
   rcases hy with hy|hy
   ·exact key _ hy (.inl rfl)
   ·exact key _ hy (.inr rfl)
  ·have z:(scope.names.lookup y==some NameKind.cell)=true:=z
   have z:scope.names.lookup y=some .cell:=by simpa using z
   have e:jj.cells.lookup y=some c:=e
   rw [hcl] at e
   rcases oG (bC e) with hm|⟨_,h2,_⟩
   ·rcases mZ hm with hm|⟨h1,_⟩
    ·cases hm
    ·have q:=ok.uniq _ h1
     rw [z] at q;cases q
   ·rw [cR] at h2
    exact vF h2
  ·show b≠jj.locals
   rw [hL];exact bD (hfp b hb).2
  ·have e:jj.cells.lookup y=some c:=e
   rcases mem e with ⟨h1,_⟩|⟨h1,_⟩
   ·exact (hfp b hb).1.2.2.2.2.1 y c h1 z
   ·have h2:s.heap.objs.size+1<=b:=by rw [<-z];exact h1
    exact absurd (bh (hfp b hb).2 (vF h2)) (dZ _)
  ·rcases (hfp b hb).1.2.2.2.1 with z|z
   ·exact I.ok.Ln b o e z
   ·exact absurd (bh (aI e) (bB I.ok.bsz z)) (dZ _)
  ·rcases ae.mp (I.GR b z) with z|z
   ·exact (hfp b hb).1.2.1 z
   ·exact (hfp b hb).1.2.2.1 z
 refine ⟨okB,rfl,I.bare,Un.kept kp,⟨fun _=>none,?_,fun i y av e1 e2 e3 => ?_⟩,fun y c e => ?_,?_,fun y c e => ?_,fun p hp => ?_,I.hok.kept kp,by rw [pX];exact I.len⟩
 ·show Heap.Ns _ jj.locals _
  rw [hL]
  exact Heap.Ns.keeps (Heap.Ns.new ..) fun b o e=>pushCells_keeps _ _ _ _ e
 ·obtain ⟨e2,hne⟩:=vG e2
  have hfr:scope.names.lookup y=some .free/\(jj.kindOf y=some .cell\/jj.kindOf y=some .free):=by
   have key:∀ k,jj.scope.names.lookup y=some k->k=.local\/k=.cell\/k=.free->scope.names.lookup y=some .free/\(jj.kindOf y=some .cell\/jj.kindOf y=some .free):=fun k hk hk'=>by
    have hk0:=hk
    rw [hsc] at hk
    obtain ⟨k',e,r⟩:=qB hk
    have no:¬(k'=.local\/k'=.cell):=fun hh=>by
     rcases ok.own _ (bC e) hh with e'|e'
     ·obtain ⟨p,hp,hpy⟩:=bx.mp e'
      have e3:=ok.ix p hp
      have:p.1=y:=hpy
      rw [this] at e3
      exact hne (bx.mpr ⟨p,hp,zI hN e3 e1⟩)
     ·exact e' (aJ e1)
    rcases r with rfl|⟨rfl,rfl⟩
    ·rcases hk' with rfl|rfl|rfl
     ·exact absurd (.inl rfl) no
     ·exact absurd (.inr rfl) no
     ·exact ⟨e,.inr hk0⟩
    ·exact ⟨e,.inl hk0⟩
   have e3:Vis jj.scope y:=e3
   rcases e3 with e3|e3|e3
   ·exact key _ e3 (.inl rfl)
   ·exact key _ e3 (.inr (.inl rfl))
   ·exact key _ e3 (.inr (.inr rfl))
  obtain ⟨m,hn,hl⟩:=I.loc
  have SD:Vis X.env.scope y:=(ok.free _ (bC hfr.1) rfl).elim (fun k=>.inr (.inl k)) (fun k=>.inr (.inr k))
  obtain ⟨w,r,q⟩:=hl i y av e1 e2 SD
  refine ⟨w,r,.inr ⟨hfr.2,?_⟩⟩
  obtain ⟨c,h1,h2⟩:=look hfr.1
  rcases q with ⟨k,_⟩|⟨_,c',e',z⟩
  ·have k:X.env.scope.names.lookup y=some .local:=k
   rcases ok.free _ (bC hfr.1) rfl with k'|k'<;>rw [show X.env.scope.names.lookup y=_ from k'] at k<;>cases k
  ·rw [h2] at e';cases e'
   exact ⟨c,h1,z.keeps kp⟩
 ·have e:jj.cells.lookup y=some c:=e
  rcases mem e with ⟨h1,_⟩|⟨_,z⟩
  ·obtain ⟨w,z⟩:=I.cell y c h1
   exact ⟨w,z.keeps kp⟩
  ·exact ⟨_,z⟩
 ·show H jj.locals=none
  rw [hL];exact I.hok.fresh (ay _)
 ·have e:jj.cells.lookup y=some c:=e
  rcases mem e with ⟨h1,_⟩|⟨h1,_⟩
  ·exact I.oF y c h1
  ·exact I.hok.fresh (vF h1)
 ·exact absurd (show p∈([]:List (Addr×Obj))++[] from hp) (by simp)
theorem Qe {E:Value->Shared->Prop} {D:Addr} {xs:List V} {y:V} {v:Value} {Q:Value->Shared->Prop} (I:Inv X pins σ H s) (hD:H D=some (.lst xs)) (hz:xs.length<sizeLine) (r:RelV y v)
 (h:∀ s',Inv X pins σ (upd H D (.lst (xs++[y]))) s'->Q .none s'):wpAny (model X.prog X.w) X.A (call (.builtin "list.append") [.ref D,v]) Q E s:=by
 obtain ⟨hz',its,n,ri,e⟩:=I.hok D _ hD
 have hl:=ri.length
 refine append_at (hsz:=by rw [aL];omega) e fun h' sb ho' => ?_
 refine h {s with heap:=h' } (I.write (t':=s.toks) (by rw [hD];trivial) (.inl rfl) (fun b u hb q=>(sb.2 b hb).trans q) ⟨_,ho'⟩ ⟨by rw [aG];exact hz,its++[v],n+1,ri.append (.cons r .nil),?_⟩)
 rw [ho']
 simp
def PTs (X:Cx) (ifs:List Expr) (t:TT):Prop :=
 ∀ (pins:List (Addr×Obj)) (s:Shared) (σ : St) (H:Hp) (Q:Bool->Hp->Prop),Inv X pins σ H s->t σ H Q ->
  wpAny (model X.prog X.w) X.A (forIn ifs true fun c r=>if r=true then do let ok <-isTrue c X.env (eval c X.env);pure (ForInStep.yield ok) else pure (ForInStep.yield r)) (TP X pins σ Q) X.xe s
def Jv:TT:=fun _ H Q=>Q true H
theorem yH:PTs X [] Jv:=fun _ _ _ H _ I h=>wpAny_tests_nil ⟨H,I,h⟩
end
theorem Jr {α : Type} {t:Sem α} {Q Q' : α -> Shared->Prop} {M:Model} {A:Around} {E:Value->Shared->Prop} {s:Shared} (h:wpAny M A t Q (fun _ _=>False) s) (hQ:∀ a s,Q a s->Q' a s):wpAny M A t Q' E s:=wpAny_mono h hQ fun _ _ z=>False.elim z
theorem Ez {prog:Program} {w:World} {A:Around} {R:Result->Shared->Prop} {s:Shared} {elt target iter:Expr} {ifs:List Expr} {scope:Scope} {pos:Pos} {it acc:Value} {env:Env} (I:Nat->Shared->Prop)
 (turn:∀ n s,I n s->wpAny (model prog w) A (pyNext it) (fun r s₁ => match r with
   |none=>R (.ok .next) s₁
   |some v=>wpAny (model prog w) A (letOwnedTupleGo target it v) (fun _ s₁'=>wpAny (model prog w) A (assign target env v) (fun _ s₂ =>
    wpAny (model prog w) A (forIn ifs true fun c r=>if r=true then do let ok <-isTrue c env (eval c env);pure (ForInStep.yield ok) else pure (ForInStep.yield r)) (fun ok s₃ =>
     if ok=true then wpAny (model prog w) A (eval elt env) (fun x s₄ =>
      wpAny (model prog w) A (call (.builtin "list.append") [acc,x]) (fun _ s₅ => ∃ m,m<n/\I m s₅) (notedBy (model prog w) A env fun e s'=>R (.error e) s') s₄) (notedBy (model prog w) A env fun e s'=>R (.error e) s') s₃
     else ∃ m,m<n/\I m s₃) (notedBy (model prog w) A env fun e s'=>R (.error e) s') s₂) (notedBy (model prog w) A env fun e s'=>R (.error e) s') s₁') (notedBy (model prog w) A env fun e s'=>R (.error e) s') s₁) (notedBy (model prog w) A env fun e s'=>R (.error e) s') s)
 (n:Nat) (h:I n s) :
 codeAny (model prog w) A (.compLoop (.ListComp elt [⟨target,iter,ifs,0⟩] scope pos) 0 it acc env) R s:=by
 refine codeAny_loop rfl I (fun n s hI => ?_) n h
 show wpAny _ A ((compTurn (.ListComp elt [⟨target,iter,ifs,0⟩] scope pos) 0 it acc env).onRaise (fun x=>do noteFrame x env;theTreesLotGoes x)) _ _ s
 refine wpAny_noted ?_
 rw [compTurn_list]
 refine wpAny_bind (wpAny_standAt (wpAny_bind (wpAny_mono (turn n s hI) (fun r s₁ h₁ => ?_) fun _ _ h'=>h')))
 cases r with
 |none=>exact wpAny_pure h₁
 |some v =>
  refine wpAny_bind (wpAny_mono h₁ (fun _ s₁' h₁' => ?_) fun _ _ h'=>h')
  refine wpAny_bind (wpAny_mono h₁' (fun _ s₂ h₂ => wpAny_bind (wpAny_mono h₂ (fun ok s₃ h₃ => ?_) fun _ _ h'=>h')) fun _ _ h'=>h')
  cases ok with
  |false=>exact wpAny_pure ⟨rfl,h₃⟩
  |true =>
   exact wpAny_bind (wpAny_bind (wpAny_mono h₃ (fun x s₄ h₄ => wpAny_bind (wpAny_mono h₄ (fun _ s₅ h₅ => wpAny_pure (wpAny_pure ⟨rfl,h₅⟩)) fun _ _ h'=>h')) fun _ _ h'=>h'))
section
variable {X:Cx}
def tLc (wi:TI) (g:TG) (tt:TT) (te:TE) (vs:List Nat):TE:=fun σ H Q=>wi σ H fun J H1=>∀ D,H1 D=none->∃ W:Nat->Nat->Hp->Prop,(∃ m,W 0 m (upd H1 D (.lst [])))/\∀ i m H,W i m H ->
 (J.stop i H/\Q (.ref D) H)\/(J.go i H/\∃ Nx:Hp->Prop,(∀ H',Nx H'->∃ m',m'<m/\W (i+1) m' H')/\∀ x H',J.yld i H x H'->g x (wipe σ vs) H' fun σ2 H2=>wipe σ2 vs=wipe σ vs/\tt σ2 H2 fun b H3 =>
   if b=true then te σ2 H3 fun y H4=>∃ acc,H4 D=some (.lst acc)/\acc.length<sizeLine/\Nx (upd H4 D (.lst (acc++[y]))) else Nx H3)
theorem Ng {pins:List (Addr×Obj)} {s:Shared} {σ : St} {H:Hp} {Q:VK} {elt tg iter:Expr} {ifs:List Expr} {scope:Scope} {own:List (Str×Nat)} {pos pos':Pos} {wi:TI} {g:TG} {tt:TT} {te:TE} {use:Option (Value->Sem Unit)} {Qf:Value->Shared->Prop}
 (hc:X.calm=true) (hN:X.N.Nodup) (I:Inv X pins σ H s) (hi:PI X tg iter wi) (ok:Ji X.N X.env.scope scope own)
 (hg:∀ (s:Shared) (H:Hp) (C:Addr) (cl:List (Str×Addr)) (fp:List Addr),PG (X.blk s H scope (compEnvC scope cl C X.env) fp) tg g) (ht:∀ (s:Shared) (H:Hp) (C:Addr) (cl:List (Str×Addr)) (fp:List Addr),PTs (X.blk s H scope (compEnvC scope cl C X.env) fp) ifs tt)
 (he:∀ (s:Shared) (H:Hp) (C:Addr) (cl:List (Str×Addr)) (fp:List Addr),PE (X.blk s H scope (compEnvC scope cl C X.env) fp) elt te) (hs:∀ x,foldedSetIterable iter X.env x=pure x)
 (h:tLc wi g tt te (own.map (·.2)) σ H Q)
 (hRR:∀ D C s' m H',Inv X pins σ H' s'->Q (.ref D) H'->s'.heap.Ns C m->ue X pins H' C->compPost (model X.prog X.w) X.A X.xe use Qf (.ref D) C (.ok .next) s') :
 wpAny (model X.prog X.w) X.A (comprehension (.ListComp elt [⟨tg,iter,ifs,0⟩] scope pos) scope X.env pos' (newList []) false (eval iter X.env) use) Qf X.xe s:=by
 have CW:∀ y∈scope.names,y.2=.free->∃ c,X.env.cells.lookup y.1=some c:=fun y hy e=>by
  rcases ok.free y hy e with k|k
  ·exact I.ok.has _ (.inl k)
  ·exact I.ok.has _ (.inr k)
 refine wpAny_comprehension_free (use:=use) rfl hs (HJ CW) ok.kind (fun y hy e=>by rw [ok.uniq y hy,e])
  (thn (hi pins s σ H _ I h) fun xv s1 hx=>thn hx fun itv s2 h2 => ?_)
 obtain ⟨it,fp,tn,J,H2,e,I2,T,st2,f2,q⟩:=h2
 subst e
 refine wpAny_newObj_type (FN ?_) (by show 0<=sizeLine;decide)
 generalize hD:s2.heap.objs.size=D
 have hDn:H2 D=none:=I2.hok.fresh (Nat.le_of_eq hD)
 obtain ⟨W,⟨m0,w0⟩,turn⟩:=q D hDn
 generalize hs3:({s2 with heap:=s2.heap.push {cls:=.type "list",data:=.seq ([]:List Value).toArray} }:Shared)=s3
 have I3:Inv X pins σ (upd H2 D (.lst [])) s3:=by
  rw [<-hs3]
  refine I2.laid (t':=s2.toks) (fun b o e=>aH _ e) (Nat.le_of_eq hD) ⟨aT _,[],0,.nil,?_⟩
  rw [<-hD]
  exact bc _ rfl
 have h3:s3.heap=s2.heap.push {cls:=.type "list",data:=.seq ([]:List Value).toArray}:=by rw [<-hs3]
 have sz:∀ b∈fp,b<s2.heap.objs.size:=fun b hb=>by
  obtain ⟨o,e,_⟩:=T.obj _ _ st2 b hb
  exact aI e
 have f3:∀ b∈fp,ue X pins (upd H2 D (.lst [])) b/\b<s3.heap.objs.size:=fun b hb=>by
  have hlt:=sz b hb
  refine ⟨⟨?_,(f2 b hb).2⟩,by rw [h3,cR];exact Nat.lt_succ_of_lt hlt⟩
  rw [au (by rw [<-hD];exact bD hlt)]
  exact (f2 b hb).1
 have st3:tn 0 s3.heap:=T.keep _ _ _ st2 fun b _ o e=>by rw [h3];exact aH _ e
 have I4:=Gj I3 ok hN f3
 have pg:=hg s3 (upd H2 D (.lst [])) s3.heap.objs.size (cellsFrom (s3.heap.objs.size+1) scope.names (dD X.env.cells scope.names [])) fp
 have pt:=ht s3 (upd H2 D (.lst [])) s3.heap.objs.size (cellsFrom (s3.heap.objs.size+1) scope.names (dD X.env.cells scope.names [])) fp
 have pe:=he s3 (upd H2 D (.lst [])) s3.heap.objs.size (cellsFrom (s3.heap.objs.size+1) scope.names (dD X.env.cells scope.names [])) fp
 show codeAny _ _ (.compStart (.ListComp elt [⟨tg,iter,ifs,0⟩] scope pos) 0 (.ref it) (.ref D) (compEnvC scope (cellsFrom (s3.heap.objs.size+1) scope.names (dD X.env.cells scope.names [])) s3.heap.objs.size X.env)) (compPost (model X.prog X.w) X.A X.xe use Qf (.ref D) s3.heap.objs.size) {s3 with heap:=pushCells (s3.heap.push {cls:=.type "dict",data:=.dict #[]}) scope.names}
 have nfp:∀ b∈fp,(upd H2 D (.lst [])) b=none:=fun b hb=>(f3 b hb).1.1
 generalize hce:compEnvC scope (cellsFrom (s3.heap.objs.size+1) scope.names (dD X.env.cells scope.names [])) s3.heap.objs.size X.env=ce at I4 pg pt pe ⊢
 have cL:ce.locals=s3.heap.objs.size:=by subst hce;rfl
 generalize hH3:upd H2 D (.lst [])=H3 at I3 I4 pg pt pe w0 nfp f3
 generalize hs4:({s3 with heap:=pushCells (s3.heap.push {cls:=.type "dict",data:=.dict #[]}) scope.names}:Shared)=s4 at I4 ⊢
 have st4:tn 0 s4.heap:=T.keep _ _ _ st3 fun b _ o e=>by rw [<-hs4];exact pushCells_keeps _ _ _ _ (aH _ e)
 have GS:∀ {σ':St} {H':Hp} {s':Shared},Inv (X.blk s3 H3 scope ce fp) [] σ' H' s'->(∀ b∈fp,H' b=none)->∀ b∈fp,ue (X.blk s3 H3 scope ce fp) [] H' b:=fun {σ' H' s'} I' hn b hb =>
  ⟨hn b hb,(I'.ok.exf b hb).1,I'.ok.LP b hb,.inl hb,fun x c e=>(I'.ok.exf b hb).2 x c e,fun p hp=>absurd (show p∈([]:List (Addr×Obj))++[] from hp) (by simp)⟩
 have loop:codeAny (model X.prog X.w) X.A (.compLoop (.ListComp elt [⟨tg,iter,ifs,0⟩] scope pos) 0 (.ref it) (.ref D) ce) (compPost (model X.prog X.w) X.A X.xe use Qf (.ref D) s3.heap.objs.size) s4:=by
  refine Ez (fun n s'=>∃ i H',Inv (X.blk s3 H3 scope ce fp) [] (wipe σ (own.map (·.2))) H' s'/\tn i s'.heap/\(∀ b∈fp,H' b=none)/\W i n H') ?_ m0 ⟨0,H3,I4,st4,nfp,w0⟩
  rintro n s5 ⟨i,H5,I5,st5,n5,w5⟩
  rcases turn i n H5 w5 with ⟨stop,qq⟩|⟨go,Nx,hNx,step⟩
  ·have td:=T.done (X.blk s3 H3 scope ce fp) rfl rfl rfl hc i [] s5 _ H5 (fun _ _=>False) I5 (GS I5 n5) st5 stop
   refine Jr td fun r s6 ⟨hr,I6⟩ => ?_
   subst hr
   have I7:Inv X pins σ H5 s6:=I3.RM (ch:=fp) I6.os I6.base I6.hok I6.bare fun b hb=>⟨(f3 b hb).1.2.2.2.1,(f3 b hb).1.2.1,(f3 b hb).1.2.2.2.2.1,(f3 b hb).1.2.2.2.2.2⟩
   have nC:H5 s3.heap.objs.size=none:=by
    have z:H5 ce.locals=none:=I6.free
    rw [cL] at z
    exact z
   obtain ⟨m,hn,_⟩:=I6.loc
   have hn:s6.heap.Ns ce.locals m:=hn
   rw [cL] at hn
   exact hRR D s3.heap.objs.size s6 m H5 I7 qq hn (I3.J9 (ay _) nC)
  ·have ti:=T.item (X.blk s3 H3 scope ce fp) rfl rfl rfl hc i [] s5 _ H5 (fun _ _=>False) I5 (GS I5 n5) st5 go
   refine Jr ti fun r s6 ⟨u,hr,h6⟩ => ?_
   subst hr
   refine Jr h6 fun _ s7 ⟨x,H7,I7,r7,y7,st7,n7⟩ => ?_
   have I7':=I7.pinned (GS I7 n7) (T.obj _ _ st7)
   refine Jr (pg _ s7 _ H7 x u _ I7' r7 (step x H7 y7)) fun _ s8 ⟨σ8,H8,I8,hw8,q8⟩ => ?_
   refine Jr (pt _ s8 σ8 H8 _ I8 q8) fun b s9 ⟨H9,I9,q9⟩ => ?_
   have fin:∀ {s':Shared} {H':Hp},Inv (X.blk s3 H3 scope ce fp) ([]++zC fp s7.heap) σ8 H' s'->Nx H'->∃ m,m<n/\∃ i H',Inv (X.blk s3 H3 scope ce fp) [] (wipe σ (own.map (·.2))) H' s'/\tn i s'.heap/\(∀ b∈fp,H' b=none)/\W i m H':=fun {s' H'} I' nx=>by
    obtain ⟨m',hm,w'⟩:=hNx H' nx
    have Q5:∀ b∈fp,∀ o,s7.heap.get? b=some o->s'.heap.get? b=some o/\H' b=none:=fun b hb o e =>
     let z:=I'.pin (b,o) (cf _ (cf _ (tE hb e)))
     ⟨z.1,z.2.1⟩
    have hl:(wipe σ (own.map (·.2))).length = σ8.length:=by rw [<-hw8,pX]
    refine ⟨m',hm,i+1,H',(I'.uk (pins:=[])).weak hl (fun j v e => ?_),T.keep _ _ _ st7 fun b hb o e=>(Q5 b hb o e).1,fun b hb => ?_,w'⟩
    ·rw [<-hw8] at e
     exact (vG e).1
    ·obtain ⟨o,e,_⟩:=T.obj _ _ st7 b hb
     exact (Q5 b hb o e).2
   cases b with
   |false =>
    simp only [mL,if_false] at q9 ⊢
    exact fin I9 q9
   |true =>
    simp only [if_true] at q9 ⊢
    refine Jr (pe _ s9 σ8 H9 _ I9 q9) fun z s10 ⟨yv,H10,I10,r10,acc,Tt,Sy,nx⟩ => ?_
    exact Qe (X:=X.blk s3 H3 scope ce fp) I10 Tt Sy r10 fun s11 I11=>fin I11 nx
 exact codeAny_compStart_list loop (T.self X.A 0 _ _ _ st4 loop)
theorem Iz {elt tg iter:Expr} {ifs:List Expr} {scope:Scope} {own:List (Str×Nat)} {pos:Pos} {wi:TI} {g:TG} {tt:TT} {te:TE} (hc:X.calm=true) (hN:X.N.Nodup) (hi:PI X tg iter wi) (ok:Ji X.N X.env.scope scope own)
 (hg:∀ (s:Shared) (H:Hp) (C:Addr) (cl:List (Str×Addr)) (fp:List Addr),PG (X.blk s H scope (compEnvC scope cl C X.env) fp) tg g) (ht:∀ (s:Shared) (H:Hp) (C:Addr) (cl:List (Str×Addr)) (fp:List Addr),PTs (X.blk s H scope (compEnvC scope cl C X.env) fp) ifs tt)
 (he:∀ (s:Shared) (H:Hp) (C:Addr) (cl:List (Str×Addr)) (fp:List Addr),PE (X.blk s H scope (compEnvC scope cl C X.env) fp) elt te) (hs:∀ x,foldedSetIterable iter X.env x=pure x:=by intro _;rfl) :
 PE X (.ListComp elt [⟨tg,iter,ifs,0⟩] scope pos) (tLc wi g tt te (own.map (·.2))):=by
 intro pins s σ H Q I h
 rw [eval_ListComp]
 refine Ng hc hN I hi ok hg ht he hs h fun D C s' m H' I' q hn f=>⟨m,hn,fun h'' sb => ?_⟩
 obtain ⟨f0,f1,f2,f3,f4,f5⟩:=f
 exact ⟨.ref D,H',I'.turned (t':=s'.toks) (fun b o hb e=>(sb.2 b hb).trans e) f0 f1 f3 f4 f5,rfl,q⟩
end
def RN (N:List Str) (sc scope:Scope) (own:List (Str×Nat)):Bool :=
 (match scope.kind with | .function=>true|_=>false)&&(scope.names.all fun y=>decide (scope.names.lookup y.1=some y.2))&&(own.all fun p=>decide (N[p.2]? = some p.1)) &&
   (scope.names.all fun y=>match y.2 with
     |.free=>(match sc.names.lookup y.1 with|some .cell=>true|some .free=>true|_=>false)
     |.local=>decide (y.1∈own.map (·.1)) || decide (y.1∉N)
     |.cell=>decide (y.1∈own.map (·.1)) || decide (y.1∉N)
     |_=>true)
theorem vg {N:List Str} {sc scope:Scope} {own:List (Str×Nat)} (h:RN N sc scope own=true):Ji N sc scope own:=by
 unfold RN at h
 simp only [aE,List.all_eq_true,decide_eq_true_eq] at h
 obtain ⟨⟨⟨h1,h2⟩,h3⟩,h4⟩:=h
 refine ⟨?_,h2,h3,fun y hy e => ?_,fun y hy e => ?_⟩
 ·split at h1
  ·assumption
  ·cases h1
 ·have q:=h4 y hy
  simp only [e] at q
  split at q<;>first|exact .inl (by assumption)|exact .inr (by assumption)|cases q
 ·have q:=h4 y hy
  rcases e with e|e<;>(simp only [e,jk,decide_eq_true_eq] at q;exact q)
end L2
namespace L2
open PySem PySem.Spec PyProof.Rows
section
variable {prog:Program} {w:World} {A:Around} {R:Result->Shared->Prop} {s:Shared} {elt t0 i0 t1 i1:Expr} {TV TU:List Expr} {scope:Scope} {pos:Pos} {it acc:Value} {env:Env}
end
section
variable {X:Cx}
end
end L2
namespace L2
open PySem PySem.Spec PyProof.Rows
section
variable {κ : Type} [DecidableEq κ]
def b0 (kvs:List (κ × V)) (k : κ):Option V:=(kvs.find? fun kv=>decide (kv.1=k)).map (·.2)
def putK (kvs:List (κ × V)) (k : κ) (v:V):List (κ × V) :=
 if (kvs.any fun kv=>decide (kv.1=k))=true then kvs.map (fun kv=>if kv.1=k then (kv.1,v) else kv) else kvs++[(k,v)]
def kL (kvs:List (κ × V)) (k : κ):List (κ × V):=kvs.filter fun kv=>decide (kv.1≠k)
theorem eV {p : κ × V} {r:List (κ × V)} {k : κ} (e:p.1=k):b0 (p::r) k=some p.2:=by simp [b0,lW,e]
theorem d5 {p : κ × V} {r:List (κ × V)} {k : κ} (e:¬p.1=k):b0 (p::r) k=b0 r k:=by simp [b0,lW,e]
theorem kH (k : κ):∀ kvs:List (κ × V),(kvs.any fun kv=>decide (kv.1=k))=(b0 kvs k).isSome
 | []=>rfl
 |p::r=>by
  rw [xo]
  by_cases e:p.1=k
  ·simp only [eV e,decide_eq_true e,Bool.true_or,Option.isSome_some]
  ·rw [d5 e,decide_eq_false e,Bool.false_or];exact kH k r
theorem EZ (k j : κ) (y:V):∀ kvs:List (κ × V),b0 (kvs.map fun kv=>if kv.1=k then (kv.1,y) else kv) j=(b0 kvs j).map fun x=>if j=k then y else x
 | []=>rfl
 |p::r=>by
  have ih:=EZ k j y r
  rw [aW]
  by_cases h:p.1=k
  ·rw [if_pos h]
   by_cases e:p.1=j
   ·rw [eV (p:=(p.1,y)) e,eV e,Option.map_some,if_pos (e.symm.trans h)]
   ·rw [d5 (p:=(p.1,y)) e,d5 e,ih]
  ·rw [if_neg h]
   by_cases e:p.1=j
   ·rw [eV (p:=p) e,eV e,Option.map_some,if_neg (fun z=>h (e.trans z))]
   ·rw [d5 (p:=p) e,d5 e,ih]
theorem Cu (k j : κ) (y:V):∀ kvs:List (κ × V),b0 kvs k=none->b0 (kvs++[(k,y)]) j=if j=k then some y else b0 kvs j
 | [],_=>by
  by_cases e:k=j
  ·rw [if_pos e.symm];exact eV (p:=(k,y)) e
  ·rw [if_neg (fun z=>e z.symm)];exact d5 (p:=(k,y)) e
 |p::r,hn=>by
  rw [List.cons_append]
  have hk:¬p.1=k:=fun z=>by rw [eV z] at hn;cases hn
  rw [d5 hk] at hn
  have ih:=Cu k j y r hn
  by_cases e:p.1=j
  ·rw [eV e,eV e,if_neg (fun z=>hk (e.trans z))]
  ·rw [d5 e,d5 e,ih]
theorem kG (kvs:List (κ × V)) (k j : κ) (y:V):b0 (putK kvs k y) j=if j=k then some y else b0 kvs j:=by
 unfold putK
 by_cases a:(kvs.any fun kv=>decide (kv.1=k))=true
 ·rw [if_pos a,EZ]
  rw [kH] at a
  by_cases e:j=k
  ·obtain ⟨x,hx⟩:=xl.mp a
   rw [if_pos e,e,hx,Option.map_some,if_pos rfl]
  ·rw [if_neg e]
   cases b0 kvs j with
   |none=>rfl
   |some x=>rw [Option.map_some,if_neg e]
 ·rw [if_neg a]
  refine Cu k j y kvs ?_
  rw [kH] at a
  cases q:b0 kvs k with
  |none=>rfl
  |some x=>rw [q] at a;exact (a rfl).elim
theorem mX (kvs:List (κ × V)) (k : κ) (v:V):(putK kvs k v).length<=kvs.length+1:=by
 unfold putK
 split
 ·rw [ab];omega
 ·rw [aG,bM,List.length_nil];omega
theorem KZ {kvs:List (κ × V)} {k : κ} (v:V) (h:b0 kvs k=none):putK kvs k v=kvs++[(k,v)]:=by
 unfold putK
 rw [kH,h]
 exact if_neg (by decide)
theorem qT.lV {o:Option V} {u:Option Value} (r:qT o u):o.isSome=u.isSome:=by
 cases o with
 |none=>cases u with
  |none=>rfl
  |some _=>exact (show False from r).elim
 |some _=>cases u with
  |none=>exact (show False from r).elim
  |some _=>rfl
theorem KV.val {kvs:List (κ × V)} {vs:List (κ × Value)} (r:KV kvs vs) (k : κ):qT (b0 kvs k) (valueAt vs k):=by
 unfold KV at r
 induction r with
 |nil=>exact True.intro
 | @cons p q ps qs h t ih =>
  obtain ⟨h1,h2⟩:=h
  by_cases e:p.1=k
  ·have e':q.1=k:=h1.symm.trans e
   have b:valueAt (q::qs) k=some q.2:=by simp [valueAt,lW,e']
   rw [eV e,b];exact h2
  ·have e':¬q.1=k:=fun z=>e (h1.trans z)
   have b:valueAt (q::qs) k=valueAt qs k:=by simp [valueAt,lW,e']
   rw [d5 e,b];exact ih
theorem KV.any {kvs:List (κ × V)} {vs:List (κ × Value)} (r:KV kvs vs) (k : κ):(kvs.any fun kv=>decide (kv.1=k))=vs.any fun kv=>decide (kv.1=k):=by
 unfold KV at r
 induction r with
 |nil=>rfl
 |cons h t ih=>rw [xo,xo,ih,h.1]
theorem KV.OX {kvs:List (κ × V)} {vs:List (κ × Value)} (r:KV kvs vs) (k : κ) {y:V} {u:Value} (ry:RelV y u) :
 KV (kvs.map fun kv=>if kv.1=k then (kv.1,y) else kv) (vs.map fun kv=>if kv.1=k then (kv.1,u) else kv):=by
 unfold KV at r ⊢
 induction r with
 |nil=>exact .nil
 | @cons p q ps qs h t ih =>
  rw [aW,aW]
  refine .cons ?_ ih
  obtain ⟨h1,h2⟩:=h
  by_cases e:p.1=k
  ·rw [if_pos e,if_pos (h1.symm.trans e)];exact ⟨h1,ry⟩
  ·rw [if_neg e,if_neg (fun z=>e (h1.trans z))];exact ⟨h1,h2⟩
theorem KV.put {kvs:List (κ × V)} {vs:List (κ × Value)} (r:KV kvs vs) (k : κ) {y:V} {u:Value} (ry:RelV y u):KV (putK kvs k y) (stored vs k u):=by
 unfold putK stored
 rw [r.any k]
 by_cases e:(vs.any fun kv=>decide (kv.1=k))=true
 ·rw [if_pos e,if_pos e];exact r.OX k ry
 ·rw [if_neg e,if_neg e];exact Paired.snoc r ⟨rfl,ry⟩
theorem KV.drop {kvs:List (κ × V)} {vs:List (κ × Value)} (r:KV kvs vs) (k : κ):KV (kL kvs k) (without vs k):=by
 unfold KV at r ⊢
 unfold kL without
 induction r with
 |nil=>exact .nil
 | @cons p q ps qs h t ih =>
  obtain ⟨h1,h2⟩:=h
  rw [pN,pN]
  by_cases e:p.1=k
  ·have a:¬decide (p.1≠k)=true:=by simp [e]
   have b:¬decide (q.1≠k)=true:=by simp [h1.symm.trans e]
   rw [if_neg a,if_neg b];exact ih
  ·have e':¬q.1=k:=fun z=>e (h1.trans z)
   have a:decide (p.1≠k)=true:=by simp [e]
   have b:decide (q.1≠k)=true:=by simp [e']
   rw [if_pos a,if_pos b];exact .cons ⟨h1,h2⟩ ih
theorem KV.length {kvs:List (κ × V)} {vs:List (κ × Value)} (r:KV kvs vs):kvs.length=vs.length:=Paired.length r
theorem F8 (kvs:List (κ × V)) (k : κ):(kL kvs k).length<=kvs.length:=List.length_filter_le _ _
end
theorem xB {P:Program} {w:World} {k:Key} {u:Value} (r:RelV (kV k) u):(cY P w).is k u=true:=by
 cases k with
 |inl i=>obtain ⟨t,e⟩:=(show ∃ t,u=Value.int i t from r);subst e;exact FQ P w i t
 |inr x=>obtain ⟨t,e⟩:=(show ∃ t,u=Value.str x t from r);subst e;exact FP P w x t
theorem CS {P:Program} {w:World}:∀ {ks:List Key} {us:List Value},Vals (ks.map kV) us->ItemsAre (cY P w) ks us
 | [],_,r=>by rw [List.map_nil] at r;cases r;exact .nil
 |k::ks,_,r=>by
  rw [aW] at r
  cases r with
  |cons h t=>exact .cons (xB h) (CS t)
abbrev KT (H:Hp):List (List Key×V)->List (List Key×Addr×Value)->Prop:=Paired fun p q=>p.1=q.1/\H q.2.1=some (.tup (p.1.map kV))/\RelV p.2 q.2.2
theorem KT.val {H:Hp} {kvs:List (List Key×V)} {xs:List (List Key×Addr×Value)} (r:KT H kvs xs) (k:List Key):qT (b0 kvs k) ((atKey xs k).map (·.2)):=by
 induction r with
 |nil=>exact True.intro
 | @cons p q ps qs h t ih =>
  obtain ⟨h1,_,h2⟩:=h
  by_cases e:p.1=k
  ·have e':q.1=k:=h1.symm.trans e
   have b:atKey (q::qs) k=some q.2:=by simp [atKey,lW,e']
   rw [eV e,b];exact h2
  ·have e':¬q.1=k:=fun z=>e (h1.trans z)
   have b:atKey (q::qs) k=atKey qs k:=by simp [atKey,lW,e']
   rw [d5 e,b];exact ih
theorem KT.OX {H:Hp} {kvs:List (List Key×V)} {xs:List (List Key×Addr×Value)} (r:KT H kvs xs) (k:List Key) {y:V} {u:Value} (ry:RelV y u) :
 KT H (kvs.map fun kv=>if kv.1=k then (kv.1,y) else kv) (xs.map (putAt k u)):=by
 induction r with
 |nil=>exact .nil
 | @cons p q ps qs h t ih =>
  rw [aW,aW]
  refine .cons ?_ ih
  obtain ⟨h1,h2,h3⟩:=h
  unfold putAt
  by_cases e:p.1=k
  ·rw [if_pos e,if_pos (h1.symm.trans e)];exact ⟨h1,h2,ry⟩
  ·rw [if_neg e,if_neg (fun z=>e (h1.trans z))];exact ⟨h1,h2,h3⟩
theorem KT.put {H:Hp} {kvs:List (List Key×V)} {xs:List (List Key×Addr×Value)} (r:KT H kvs xs) (k:List Key) {b:Addr} {y:V} {u:Value} (hb:H b=some (.tup (k.map kV))) (ry:RelV y u) :
 KT H (putK kvs k y) (storedH xs k b u):=by
 have e:(kvs.any fun kv=>decide (kv.1=k))=(atKey xs k).isSome:=by
  rw [kH,(r.val k).lV,Option.isSome_map]
 unfold putK storedH
 rw [e]
 by_cases q:(atKey xs k).isSome=true
 ·rw [if_pos q,if_pos q];exact r.OX k ry
 ·rw [if_neg q,if_neg q];exact Paired.snoc r ⟨rfl,hb,ry⟩
theorem KT.keeps {H H':Hp} {kvs:List (List Key×V)} {xs:List (List Key×Addr×Value)} (r:KT H kvs xs) (ht:∀ b ys,H b=some (.tup ys)->H' b=some (.tup ys)):KT H' kvs xs :=
 Paired.Pf r fun _ _ z=>⟨z.1,ht _ _ z.2.1,z.2.2⟩
section
variable {P:Program} {w:World} {H:Hp} {h:Heap} {a:Addr}
theorem NW {u:HO} (ok:HOk P w H h) (e:Rd H a u):fB P w H h a u:=e.ok ok
theorem C5 {kvs:List (Key×V)} (ok:HOk P w H h) (e:Rd H a (.dK kvs)):kvs.length<=sizeLine/\(a==sysModules)=false/\∃ vs,KV kvs vs/\h.DictOf (cY P w) a vs :=
 show fB P w H h a (.dK kvs) from NW ok e
theorem IX {kvs:List (Key×V)} (ok:HOk P w H h) (e:H a=some (.dK kvs)):kvs.length<=sizeLine/\(a==sysModules)=false/\∃ vs,KV kvs vs/\h.DictOf (cY P w) a vs:=C5 ok (.inl e)
theorem zQ {ks:List Key} (ok:HOk P w H h) (e:H a=some (.tup (ks.map kV))):(tupleKind (cY P w)).is h ks a:=by
 obtain ⟨_,its,r,o,h1,h2,n,h3⟩:=(show fB P w H h a (.tup (ks.map kV)) from ok a _ e)
 exact ⟨o,its.toArray,n,h1,h2,h3,by simpa using CS r⟩
theorem C1 {kvs:List (List Key×V)} (ok:HOk P w H h) (e:Rd H a (.dT kvs)):kvs.length<=sizeLine/\(a==sysModules)=false /\
 ∃ xs,KT H kvs xs/\h.DictOfH (tupleKind (cY P w)) a xs:=by
 obtain ⟨z,y,xs,r,o,es,ep,h1,h2,h3,h4,h5⟩:=(show fB P w H h a (.dT kvs) from NW ok e)
 refine ⟨z,y,xs,r,o,es,ep,h1,h2,h3,h4,fun x hx => ?_,h5⟩
 have all:∀ {l:List (List Key×V)} {m:List (List Key×Addr×Value)},KT H l m->∀ x∈m,(tupleKind (cY P w)).is h x.1 x.2.1:=by
  intro l m q
  induction q with
  |nil=>intro x hx;exact nomatch hx
  | @cons p q ps qs hq t ih =>
   intro x hx
   rcases ae.mp hx with e|hx
   ·subst e
    exact zQ ok (by rw [<-hq.1];exact hq.2.1)
   ·exact ih x hx
 exact all r x hx
theorem RK {kvs:List (List Key×V)} (ok:HOk P w H h) (e:H a=some (.dT kvs)):kvs.length<=sizeLine/\(a==sysModules)=false /\
 ∃ xs,KT H kvs xs/\h.DictOfH (tupleKind (cY P w)) a xs:=C1 ok (.inl e)
end
def sy (H:Hp) (a:Addr) (y:V) (r:Option V):Prop :=
 (∃ kvs k,Rd H a (.dK kvs)/\y=kV k/\r=b0 kvs k)\/∃ kvs k b,Rd H a (.dT kvs)/\y=.ref b/\H b=some (.tup (k.map kV))/\r=b0 kvs k
def Il (H:Hp) (a:Addr) (y v:V) (H':Hp):Prop :=
 (∃ kvs k,H a=some (.dK kvs)/\y=kV k/\kvs.length<sizeLine/\H'=upd H a (.dK (putK kvs k v))) \/
 ∃ kvs k b,H a=some (.dT kvs)/\y=.ref b/\H b=some (.tup (k.map kV))/\kvs.length<sizeLine/\H'=upd H a (.dT (putK kvs k v))
theorem sy.k {H:Hp} {a:Addr} {kvs:List (Key×V)} {k:Key} (e:H a=some (.dK kvs)):sy H a (kV k) (b0 kvs k):=.inl ⟨kvs,k,.inl e,rfl,rfl⟩
theorem Il.k {H:Hp} {a:Addr} {kvs:List (Key×V)} {k:Key} {v:V} (e:H a=some (.dK kvs)) (hl:kvs.length<sizeLine):Il H a (kV k) v (upd H a (.dK (putK kvs k v))):=.inl ⟨kvs,k,e,rfl,hl,rfl⟩
section
variable {X:Cx} {pins:List (Addr×Obj)} {σ : St} {H:Hp} {s:Shared} {a:Addr} {y v:V} {u r:Value} {o:Option V} {A:Around} {E:Value->Shared->Prop}
theorem Inv.big (I:Inv X pins σ H s):sysModules<s.heap.objs.size:=by
 have h:mainGlobals<s.heap.objs.size:=(I.mod.glob.keeps I.bk).lt
 exact Nat.lt_trans (by decide) h
theorem Kd {Q:Value->Shared->Prop} (hu:A.units+1<cLine) (I:Inv X pins σ H s) (g:sy H a y (some v)) (ry:RelV y u) (h:∀ w' s',Inv X pins σ H s'->RelV v w'->Q w' s') :
 wpAny (model X.prog X.w) A (getItem (.ref a) u) Q E s:=by
 rcases g with ⟨kvs,k,e,ey,l⟩|⟨kvs,k,b,e,ey,eb,l⟩
 ·subst ey
  obtain ⟨z,hd,vs,rel,dd⟩:=C5 I.hok e
  obtain ⟨w',hw,rw'⟩:=qT.some_of (v:=v) (o:=valueAt vs k) (by rw [l];exact rel.val k)
  exact wpAny_getItem_of (xB ry) dd.mapOf hw (h w' _ (I.tok _) rw')
 ·subst ey
  cases (show u=Value.ref b from ry)
  obtain ⟨z,hd,xs,rel,dd⟩:=C1 I.hok e
  obtain ⟨w',hw,rw'⟩:=qT.some_of (v:=v) (o:=(atKey xs k).map (·.2)) (by rw [l];exact rel.val k)
  obtain ⟨p,hp,hp2⟩:=oe.mp hw
  refine wpAny_getItem_heap (tupleKind_room_in1 hu) (zQ I.hok eb) dd hp ?_
  rw [hp2]
  exact h w' _ (I.tok _) rw'
theorem Tv {Q:Value->Shared->Prop} (hu:A.units+1<cLine) (I:Inv X pins σ H s) (g:sy H a y o) (ry:RelV y u) (h:∀ s',Inv X pins σ H s'->Q (.bool o.isSome) s') :
 wpAny (model X.prog X.w) A (compareOp .In u (.ref a)) Q E s:=by
 rcases g with ⟨kvs,k,e,ey,l⟩|⟨kvs,k,b,e,ey,eb,l⟩
 ·subst ey
  obtain ⟨z,hd,vs,rel,dd⟩:=C5 I.hok e
  refine wpAny_in_of (xB ry) hd dd.mapOf ?_
  rw [<-(rel.val k).lV,<-l]
  exact h _ (I.tok _)
 ·subst ey
  cases (show u=Value.ref b from ry)
  obtain ⟨z,hd,xs,rel,dd⟩:=C1 I.hok e
  refine wpAny_in_heap (tupleKind_room_in1 hu) (zQ I.hok eb) hd dd ?_
  have q:=(rel.val k).lV
  rw [Option.isSome_map] at q
  rw [<-q,<-l]
  exact h _ (I.tok _)
theorem NC {Q:Value->Shared->Prop} (hu:A.units+1<cLine) (I:Inv X pins σ H s) (g:sy H a y o) (ry:RelV y u) (h:∀ s',Inv X pins σ H s'->Q (.bool (!o.isSome)) s') :
 wpAny (model X.prog X.w) A (compareOp .NotIn u (.ref a)) Q E s:=by
 rcases g with ⟨kvs,k,e,ey,l⟩|⟨kvs,k,b,e,ey,eb,l⟩
 ·subst ey
  obtain ⟨z,hd,vs,rel,dd⟩:=C5 I.hok e
  refine wpAny_notIn_of (xB ry) hd dd.mapOf ?_
  rw [<-(rel.val k).lV,<-l]
  exact h _ (I.tok _)
 ·subst ey
  cases (show u=Value.ref b from ry)
  obtain ⟨z,hd,xs,rel,dd⟩:=C1 I.hok e
  refine wpAny_notIn_heap (tupleKind_room_in1 hu) (zQ I.hok eb) hd dd ?_
  have q:=(rel.val k).lV
  rw [Option.isSome_map] at q
  rw [<-q,<-l]
  exact h _ (I.tok _)
theorem va {h':Heap} {t':Nat} {ob:HO} (I:Inv X pins σ H s) (mu:Mut (H a)) (hs:Heap.SameBut a s.heap h') (he:∃ q,h'.get? a=some q) (new:fB X.prog X.w (upd H a ob) h' a ob) :
 Inv X pins σ (upd H a ob) {s with heap:=h',toks:=t' } :=
 I.write (x:=a) (e:=a) mu (.inl rfl) (fun b q hb z=>(hs.2 b hb).trans z) he new
theorem Ew {P:Program} {w:World} {H':Hp} {h':Heap} {kvs:List (Key×V)} {vs:List (Key×Value)} (z:kvs.length<=sizeLine) (hd:(a==sysModules)=false) (rel:KV kvs vs) (dd:h'.DictOf (cY P w) a vs) :
 fB P w H' h' a (.dK kvs):=⟨z,hd,vs,rel,dd⟩
theorem Kc {H':Hp} {Q:Unit->Shared->Prop} (hu:A.units+1<cLine) (I:Inv X pins σ H s) (g:Il H a y v H') (ry:RelV y u) (rv:RelV v r) (h:∀ s',Inv X pins σ H' s'->Q () s') :
 wpAny (model X.prog X.w) A (setItem (.ref a) u r) Q E s:=by
 rcases g with ⟨kvs,k,e,ey,l,eH⟩|⟨kvs,k,b,e,ey,eb,l,eH⟩
 ·subst ey eH
  obtain ⟨z,hd,vs,rel,dd⟩:=IX I.hok e
  have hz:vs.length<=sizeLine:=by rw [<-rel.length];exact z
  have hl:(putK kvs k v).length<=sizeLine:=by have:=mX kvs k v;omega
  refine wpAny_setItem_pairs (hsz:=hz) (xB ry) dd fun h' dd' hs=>h _ ?_
  have he:∃ q,h'.get? a=some q:=let ⟨q,_,_,hq,_⟩:=dd';⟨q,hq⟩
  exact va I (by rw [e];exact True.intro) hs he (Ew hl hd (rel.put k rv) dd')
 ·subst ey eH
  cases (show u=Value.ref b from ry)
  obtain ⟨z,hd,xs,rel,dd⟩:=RK I.hok e
  have hz:xs.length<=sizeLine:=by rw [<-Paired.length rel];exact z
  have hl:(putK kvs k v).length<=sizeLine:=by have:=mX kvs k v;omega
  refine wpAny_setItem_heap (hsz:=hz) (tupleKind_room_in1 hu) (zQ I.hok eb) dd fun h' dd' hs=>h _ ?_
  obtain ⟨q,es,ep,hq,h2,h3,h4,_,h5⟩:=dd'
  refine va I (by rw [e];exact True.intro) hs ⟨q,hq⟩ ⟨hl,hd,_,(rel.put k eb rv).keeps fun c ys ec => ?_,q,es,ep,hq,h2,h3,h4,h5⟩
  rw [au (bR ec e (fun z=>nomatch z))]
  exact ec
end
section
variable {X:Cx} {pins:List (Addr×Obj)} {σ : St} {H:Hp} {s:Shared} {a:Addr} {kvs:List (Key×V)} {k:Key} {u:Value} {A:Around} {E:Value->Shared->Prop}
theorem Qq {Q:Unit->Shared->Prop} (I:Inv X pins σ H s) (e:H a=some (.dK kvs)) (ry:RelV (kV k) u) (l:(b0 kvs k).isSome=true) (h:∀ s',Inv X pins σ (upd H a (.dK (kL kvs k))) s'->Q () s') :
 wpAny (model X.prog X.w) A (delItem (.ref a) u) Q E s:=by
 obtain ⟨z,hd,vs,rel,dd⟩:=IX I.hok e
 refine wpAny_delItem_slot dd.typeIs (by decide) PySem.F.slot_dict_delitem
  (call_meetsIn PySem.F.slot_dict_delitem dd.typeIs PySem.F.entry_dict_delitem (PySem.F.args_dict_delitem_2 _ _) (meets_dict_delitem_pairs (cY X.prog X.w) a (xB ry)) ⟨vs,dd,by rw [<-rel.length];exact z,by rw [<-(rel.val k).lV];exact l,fun h' dd' hs=>h _ ?_⟩)
 have he:∃ q,h'.get? a=some q:=let ⟨q,_,_,hq,_⟩:=dd';⟨q,hq⟩
 exact va I (by rw [e];exact True.intro) hs he (Ew (bB (F8 kvs k) z) hd (rel.drop k) dd')
theorem RL {v:V} {more:List Value} {Q:Value->Shared->Prop} (I:Inv X pins σ H s) (e:H a=some (.dK kvs)) (ry:RelV (kV k) u) (l:b0 kvs k=some v) (hm:more=[]\/∃ x,more=[x])
 (h:∀ w' s',Inv X pins σ (upd H a (.dK (kL kvs k))) s'->RelV v w'->Q w' s'):wpAny (model X.prog X.w) A (call (.builtin "dict.pop") (.ref a::u::more)) Q E s:=by
 obtain ⟨z,hd,vs,rel,dd⟩:=IX I.hok e
 obtain ⟨w',hw,rw'⟩:=qT.some_of (v:=v) (o:=valueAt vs k) (by rw [<-l];exact rel.val k)
 have hp:(keyPart u).isSome=true:=by
  cases k with
  |inl i=>obtain ⟨t,q⟩:=(show ∃ t,u=Value.int i t from ry);subst q;rfl
  |inr x=>obtain ⟨t,q⟩:=(show ∃ t,u=Value.str x t from ry);subst q;rfl
 have ha:argsOk "dict.pop" ⟨.ref a::u::more,[]⟩:=by
  rcases hm with q|⟨x,q⟩
  ·subst q;exact PySem.F.args_dict_pop_2 _ _
  ·subst q;exact PySem.F.args_dict_pop_3 _ _ _
 refine call_meetsIn PySem.F.slot_dict_pop dd.typeIs PySem.F.entry_dict_pop ha (meets_dict_pop_there (cY X.prog X.w) a (xB ry) more hm hp)
  ⟨vs,w',dd,by rw [<-rel.length];exact z,hw,fun h' dd' hs=>h w' _ ?_ rw'⟩
 have he:∃ q,h'.get? a=some q:=let ⟨q,_,_,hq,_⟩:=dd';⟨q,hq⟩
 exact va I (by rw [e];exact True.intro) hs he (Ew (bB (F8 kvs k) z) hd (rel.drop k) dd')
end
def Qi (i:Expr):Prop:=∀ ov iv,subscripted i false ov iv=operate [ov,iv] (getItem ov iv)
theorem MA {prog:Program} {w:World} {A:Around} {E:Value->Shared->Prop} {s:Shared} {env:Env} {value slice:Expr} {pos:Pos} {T id:String} {Q:Value->Shared->Prop}
 (hl:typeLookup (.type T) "__getitem__"=pure (some (.builtin id))) (hs:Qi slice)
 (h:wpAny (model prog w) A (eval value env) (fun o s₁ => wpAny (model prog w) A (eval slice env) (fun i s₂ => s₂.TypeIs o T/\wpAny (model prog w) A (getItem o i) Q E s₂) E s₁) E s) :
 wpAny (model prog w) A (eval (.Subscript value slice pos) env) Q E s:=by
 refine Subscript_ (wpAny_mono h (fun o s₁ h₁ => wpAny_mono h₁ (fun i s₂ h₂ => ?_) fun _ _ x=>x) fun _ _ x=>x)
 obtain ⟨hT,h₂⟩:=h₂
 unfold subscriptTail
 refine wpAny_bind ?_
 rw [getitemInPython_of_ne hT.not_modules]
 refine wpAny_bind (wpAny_specialOf hT hl ?_)
 have fin:wpAny (model prog w) A (subscripted slice false o i) (fun r s₃ => wpAny (model prog w) A (letTemporaryGo value o r >>= fun _=>pure r) Q E s₃) E s₂ := by
  rw [hs o i]
  exact wpAny_operating (wpAny_mono h₂ (fun r s₃ h₃ => wpAny_bind (wpAny_letTemporaryGo (wpAny_pure h₃))) fun _ _ x=>x)
 first
  |exact wpAny_pure (wpAny_bind fin)
  |exact wpAny_bind (wpAny_pure (wpAny_bind fin))
  |exact wpAny_bind fin
theorem F9 {X:Cx} {pins:List (Addr×Obj)} {σ : St} {H:Hp} {s:Shared} {a:Addr} {y:V} {o:Option V} (I:Inv X pins σ H s) (g:sy H a y o):s.TypeIs (.ref a) "dict":=by
 rcases g with ⟨kvs,k,e,_,_⟩|⟨kvs,k,b,e,_,_,_⟩
 ·obtain ⟨_,_,vs,_,dd⟩:=C5 I.hok e
  exact dd.typeIs
 ·obtain ⟨_,_,xs,_,dd⟩:=C1 I.hok e
  exact dd.typeIs
def qb (td ty:TE):TE:=fun σ H Q=>td σ H fun x H1=>ty σ H1 fun y H2=>∃ a v,x=.ref a/\sy H2 a y (some v)/\Q v H2
def KG (ty td:TE):TE:=fun σ H Q=>ty σ H fun y H1=>td σ H1 fun x H2=>∃ a o,x=.ref a/\sy H2 a y o/\Q (.bl o.isSome) H2
def iG (ty td:TE):TE:=fun σ H Q=>ty σ H fun y H1=>td σ H1 fun x H2=>∃ a o,x=.ref a/\sy H2 a y o/\Q (.bl (!o.isSome)) H2
def Fn (td ty tv:TE):TS:=fun D σ H=>tv σ H fun v H1=>td σ H1 fun x H2=>ty σ H2 fun y H3=>∃ a H4,x=.ref a/\Il H3 a y v H4/\D.nx σ H4
section
variable {X:Cx} {o i e value:Expr} {pos pos' AW:Pos} {td ty tv:TE}
theorem MS (hu:X.A.units+1<cLine) (ho:PE X o td) (hi:PE X i ty) (hs:Qi i):PE X (.Subscript o i pos) (qb td ty):=by
 intro pins s σ H Q I h
 refine MA PySem.F.slot_dict_getitem.lookup hs (thn (ho pins s σ H _ I h) fun u s1 ⟨x,H1,I1,rx,q1⟩=>thn (hi pins s1 σ H1 _ I1 q1) fun iv s2 ⟨y,H2,I2,ry,a,v,ex,g,q2⟩ => ?_)
 subst ex
 obtain rfl:u=Value.ref a:=rx
 exact ⟨F9 I2 g,Kd hu I2 g ry fun w' s3 I3 rw'=>⟨v,H2,I3,rw',q2⟩⟩
theorem G8 (hu:X.A.units+1<cLine) (hi:PE X i ty) (ho:PE X o td):PC X .In i o (KG ty td):=by
 intro pins s σ H Q I h
 refine thn (hi pins s σ H _ I h) fun iv s1 ⟨y,H1,I1,ry,q1⟩=>thn (ho pins s1 σ H1 _ I1 q1) fun u s2 ⟨x,H2,I2,rx,a,ov,ex,g,q2⟩ => ?_
 subst ex
 obtain rfl:u=Value.ref a:=rx
 exact Tv hu I2 g ry fun s3 I3=>⟨.bl ov.isSome,H2,I3,rfl,q2⟩
theorem gr (hu:X.A.units+1<cLine) (hi:PE X i ty) (ho:PE X o td):PC X .NotIn i o (iG ty td):=by
 intro pins s σ H Q I h
 refine thn (hi pins s σ H _ I h) fun iv s1 ⟨y,H1,I1,ry,q1⟩=>thn (ho pins s1 σ H1 _ I1 q1) fun u s2 ⟨x,H2,I2,rx,a,ov,ex,g,q2⟩ => ?_
 subst ex
 obtain rfl:u=Value.ref a:=rx
 exact NC hu I2 g ry fun s3 I3=>⟨.bl (!ov.isSome),H2,I3,rfl,q2⟩
theorem D3 (hu:X.A.units+1<cLine) (ho:PE X o td) (hi:PE X i ty) (hv:PE X value tv) (hs:swapsWith value (some (.Subscript o i pos')) pos.line X.env=pure false) :
 PS X (.Assign [.Subscript o i pos'] value pos) (Fn td ty tv):=by
 intro pins s σ H D I h
 refine wpAny_Assign_Subscript (thn (hv pins s σ H _ I h) fun r s1 ⟨v,H1,I1,rv,q1⟩=>thn (ho pins s1 σ H1 _ I1 q1) fun u s2 ⟨x,H2,I2,rx,q2⟩=>thn (hi pins s2 σ H2 _ I2 q2) fun iv s3 ⟨y,H3,I3,ry,a,H4,ex,g,q3⟩ => ?_) hs
 subst ex
 obtain rfl:u=Value.ref a:=rx
 exact Kc hu I3 g ry rv fun s4 I4=>⟨σ,H4,I4,q3⟩
end
theorem LS {P:Program} {w:World} {H:Hp} (h:Heap) (hb:sysModules<h.objs.size):fB P w H (h.push {cls:=.type "dict",data:=.dict #[]}) h.objs.size (.dK []) :=
 ⟨aT _,beq_eq_false_iff_ne.mpr (Ne.symm (bD hb)),[],.nil,Heap.DictOf.new h⟩
def kX:TE:=fun _ H Q=>∀ p,H p=none->Q (.ref p) (upd H p (.dK []))
section
variable {X:Cx} {pos:Pos}
theorem iC:PE X (.Dict [] [] pos) kX:=fun pins s σ H Q I h =>
 wpAny_Dict_empty ⟨.ref s.heap.objs.size,_,I.laid (a:=s.heap.objs.size) (o:=.dK []) (t':=s.toks) (fun _ _ q=>aH _ q) (ay _) (LS s.heap I.big),rfl,h _ (I.hok.fresh (ay _))⟩
end
structure M1 (X:Cx) (o:Expr) (m:Str) (apos:Pos) (e:Expr) (ji:Pos):Prop where
 base:attributeBase o m X.env (eval o X.env)=eval o X.env
 few:((backTo ji (starEach [e] X.env)).all (fun x => !x.1)&&(backToKw ji (keywordEach [] X.env)).all (fun x=>x.1.isSome)
  && decide (([e]:List Expr).length+([]:List Keyword).length+(if ([]:List Keyword).isEmpty then 0 else 1)<30))=true
 line:(apos.endLine==ji.line)=true
 trees:backTo ji (starEach [e] X.env)=[(false,eval e X.env)]
def IsD (H:Hp) (a:Addr):Prop:=(∃ kvs,Rd H a (.dK kvs))\/∃ kvs,Rd H a (.dT kvs)
theorem Pn {X:Cx} {pins:List (Addr×Obj)} {σ : St} {H:Hp} {s:Shared} {a:Addr} (I:Inv X pins σ H s) (d:IsD H a) :
 s.TypeIs (.ref a) "dict"/\(∀ b,Value.ref a=.ref b->∃ ob,s.heap.get? b=some ob/\ob.dict=none)/\(a==sysModules)=false:=by
 rcases d with ⟨kvs,e⟩|⟨kvs,e⟩
 ·obtain ⟨_,hd,vs,_,dd⟩:=C5 I.hok e
  refine ⟨dd.typeIs,fun b q => ?_,hd⟩
  cases q
  obtain ⟨ob,_,_,h1,h2,_⟩:=dd
  exact ⟨ob,h1,h2.2.1⟩
 ·obtain ⟨_,hd,xs,_,dd⟩:=C1 I.hok e
  refine ⟨dd.typeIs,fun b q => ?_,hd⟩
  cases q
  obtain ⟨ob,_,_,h1,h2,_⟩:=dd
  exact ⟨ob,h1,h2.2.1⟩
section
variable {X:Cx} {pins:List (Addr×Obj)} {σ : St} {H:Hp} {s:Shared} {a:Addr} {y d:V} {u r:Value} {o:Option V} {A:Around} {E:Value->Shared->Prop}
end
def GP (td ty:TE):TE:=fun σ H Q=>td σ H fun x H1=>∃ a,x=.ref a/\IsD H1 a/\ty σ H1 fun y H2=>∃ kvs k v,H2 a=some (.dK kvs)/\y=kV k/\b0 kvs k=some v/\Q v (upd H2 a (.dK (kL kvs k)))
section
variable {X:Cx} {o e f:Expr} {apos ji:Pos} {td ty tx:TE}
theorem Lb (ho:PE X o td) (he:PE X e ty) (m:M1 X o "pop" apos e ji):PE X (.Call (.Attribute o "pop" apos) [e] [] ji) (GP td ty):=by
 intro pins s σ H Q I h
 refine wpAny_Call_method m.base m.few m.line PySem.F.plainAttrs_dict PySem.F.slot_dict_pop PySem.F.type_dict_pop (thn (ho pins s σ H _ I h) fun u s1 ⟨x,H1,I1,rx,a,ex,d,q1⟩ => ?_)
 subst ex
 obtain rfl:u=Value.ref a:=rx
 obtain ⟨t1,t2,_⟩:=Pn I1 d
 refine ⟨t1,t2,?_⟩
 rw [m.trees]
 refine Calls.callWith_builtin rfl (Calls.evalArgs_plain (Calls.spliced_cons (thn (he pins s1 σ H1 _ I1 q1) fun iv s2 ⟨y,H2,I2,ry,kvs,k,v,ea,ey,l,q2⟩=>Calls.spliced_nil ?_)))
 subst ey
 exact RL I2 ea ry l (.inl rfl) fun w' s3 I3 rw'=>⟨v,_,I3,rw',q2⟩
end
section
variable {X:Cx} {pins:List (Addr×Obj)} {σ : St} {H:Hp} {s:Shared} {a:Addr} {kvs:List (Key×V)} {A:Around} {E:Value->Shared->Prop}
end
section
variable {X:Cx} {pins:List (Addr×Obj)} {σ : St} {H:Hp} {s:Shared} {a:Addr} {y:V} {u:Value} {A:Around} {E:Value->Shared->Prop}
end
end L2
namespace L2
open PySem PySem.Spec PyProof.Rows
section
variable {prog:Program} {w:World} {A:Around} {E:Value->Shared->Prop}
end
section
variable {X:Cx}
end
end L2
namespace L2
open PySem PySem.Spec PyProof.Rows
section
variable {X:Cx} {pins:List (Addr×Obj)} {σ : St} {H:Hp} {s:Shared} {h':Heap}
theorem Inv.My {t':Nat} {ch:List Addr} (I:Inv X pins σ H s) (k:∀ b o,b∉ch->s.heap.get? b=some o->h'.get? b=some o) (hf:∀ b∈ch,ue X pins H b):Inv X pins σ H {s with heap:=h',toks:=t' }:=by
 have nit:∀ b u,H b=some u->b∉ch:=fun b u e z=>by
  have q:=(hf b z).1
  rw [q] at e;cases e
 refine I.step (g':=s.gens) (d':=s.drawn) (ch:=ch) (fun b hb=>⟨(hf b hb).2.2.2.1,(hf b hb).2.1,(hf b hb).2.2.2.2.1,(hf b hb).2.2.2.2.2⟩) (fun b o _ _ hc e _=>k b o hc e) (fun b o _ _ hc e _=>⟨o.slots,k b o hc e⟩)
  (fun _ _ _ _ n=>n) (fun b o hc e=>⟨o,k b o hc e⟩) (fun _ _ e=>e) (fun _ _ _ e=>e) (fun b ps e=>⟨#[],by rw [e];simp⟩) (fun m hm => ?_) (fun b u e => ?_) I.bare
 ·obtain ⟨o,es,ep,ho,r⟩:=hm
  exact ⟨o,es,ep,k _ o (fun z=>(hf _ z).2.1 rfl) ho,r⟩
 ·refine (I.hok b u e).oR (fun c v hc q=>k c v ?_ q) (fun _ q=>q) fun _ _ q=>q
  rcases hc with z|z
  ·rw [z];exact nit b u e
  ·exact nit c _ z
theorem Inv.vH {t':Nat} {ch:List Addr} {T:Addr} {ob:HO} (I:Inv X pins σ H s) (k:∀ b o,b∉ch->s.heap.get? b=some o->h'.get? b=some o) (hf:∀ b∈ch,ue X pins H b) (hT:s.heap.objs.size<=T)
 (new:fB X.prog X.w (upd H T ob) h' T ob):Inv X pins σ (upd H T ob) {s with heap:=h',toks:=t' }:=by
 have hn:H T=none:=I.hok.fresh hT
 have nit:∀ b u,H b=some u->b∉ch:=fun b u e z=>by
  have q:=(hf b z).1
  rw [q] at e;cases e
 refine I.step (g':=s.gens) (d':=s.drawn) (ch:=ch) (fun b hb=>⟨(hf b hb).2.2.2.1,(hf b hb).2.1,(hf b hb).2.2.2.2.1,(hf b hb).2.2.2.2.2⟩) (fun b o _ _ hc e _=>k b o hc e) (fun b o _ _ hc e _=>⟨o.slots,k b o hc e⟩)
  (fun b o _ e n => ?_) (fun b o hc e=>⟨o,k b o hc e⟩) (fun b xs e => ?_) (fun b o u e => ?_) (fun b ps e=>⟨#[],?_⟩) (fun m hm => ?_) (fun b u e => ?_) I.bare
 ·rw [au (bD (bh (aI e) hT))];exact n
 ·rw [au (az e hn)];exact e
 ·rw [au (az e hn)];exact e
 ·rw [au (az e hn),e];simp
 ·obtain ⟨o,es,ep,ho,r⟩:=hm
  exact ⟨o,es,ep,k _ o (fun z=>(hf _ z).2.1 rfl) ho,r⟩
 ·by_cases hb:b=T
  ·subst hb
   rw [aw] at e
   cases e
   exact new
  ·rw [au hb] at e
   refine (I.hok b u e).oR (fun c v hc q=>k c v ?_ q) (fun c q=>by rw [au (az q hn)];exact q) fun c xs q=>by rw [au (az q hn)];exact q
   rcases hc with z|z
   ·rw [z];exact nit b u e
   ·exact nit c _ z
theorem Inv.lock {d:Addr} {u:HO} (I:Inv X pins σ H s) (h:H d=some u) (mu:Mut (some u)):∃ od,Inv X pins σ (upd H d (.frz od u)) s:=by
 have x:=I.hok d u h
 have ex:∃ od,s.heap.get? d=some od:=by
  cases u with
  |lst xs=>obtain ⟨_,_,_,_,e⟩:=x;exact ⟨_,e⟩
  |dK kvs=>obtain ⟨_,_,_,_,o,_,_,e,_⟩:=x;exact ⟨o,e⟩
  |dT kvs=>obtain ⟨_,_,_,_,o,_,_,e,_⟩:=x;exact ⟨o,e⟩
  |set S n=>obtain ⟨o,_,_,_,e,_⟩:=x;exact ⟨o,e⟩
  |ins C dx fs=>obtain ⟨_,_,_,e,_⟩:=x;exact ⟨_,e⟩
  |ext φ => obtain ⟨_,⟨_,e⟩,_⟩:=x;exact ⟨_,e⟩
  |_=>exact False.elim mu
 obtain ⟨od,e⟩:=ex
 have new:fB X.prog X.w (upd H d (.frz od u)) s.heap d (.frz od u):=by
  refine ⟨e,x.oR (fun b v _ q=>q) (fun b q => ?_) fun b xs q => ?_⟩
  ·rw [au (fun z=>by rw [z,h] at q;cases q;exact mu)];exact q
  ·rw [au (fun z=>by rw [z,h] at q;cases q;exact mu)];exact q
 exact ⟨od,I.write (x:=d) (e:=d) (t':=s.toks) (h':=s.heap) (by rw [h];exact mu) (.inl rfl) (fun b v _ q=>q) ⟨od,e⟩ new⟩
theorem Inv.IE {d:Addr} {u:HO} (I:Inv X pins σ H s) (h:H d=some u) (mu:Mut (some u)):∀ o' u',X.H_0 d≠some (.frz o' u'):=fun o' u' e=>by
 have q:=I.base.z0 d o' u' e
 rw [h] at q
 cases q
 exact mu
theorem Inv.unlock {d:Addr} {od:Obj} {u:HO} (I:Inv X pins σ H s) (h:H d=some (.frz od u)) (hn:∀ o' u',X.H_0 d≠some (.frz o' u')):Inv X pins σ (upd H d u) s:=by
 have neH:∀ b o,H b=some o->(∀ o' u',o ≠ .frz o' u')->b≠d:=fun b o e hne z=>by
  rw [z,h] at e
  cases e
  exact hne _ _ rfl
 have neN:∀ b,H b=none->b≠d:=fun b e z=>by rw [z,h] at e;cases e
 refine ⟨I.ok,I.os,I.bare,⟨I.base.keep,I.base.slot,fun b o e n hx => ?_,I.base.there,fun b xs e => ?_,fun b o x e => ?_,fun b ps e => ?_⟩,I.loc,I.cell,?_,fun x c e => ?_,fun p hp => ?_,fun b o e => ?_,I.len⟩
 ·rw [au (neN b (I.base.free b o e n hx))];exact I.base.free b o e n hx
 ·have q:=I.base.Di b xs e
  rw [au (neH b _ q (fun _ _ z=>nomatch z))];exact q
 ·have q:=I.base.z0 b o x e
  rw [au (fun z=>by rw [z] at e;exact hn _ _ e)];exact q
 ·obtain ⟨m,q⟩:=I.base.Dv b ps e
  exact ⟨m,by rw [au (neH b _ q (fun _ _ z=>nomatch z))];exact q⟩
 ·rw [au (neN _ I.free)];exact I.free
 ·rw [au (neN c (I.oF x c e))];exact I.oF x c e
 ·obtain ⟨e,n,r⟩:=I.pin p hp
  exact ⟨e,by rw [au (neN _ n)];exact n,r⟩
 ·by_cases hb:b=d
  ·rw [hb,aw] at e
   cases e
   rw [hb]
   obtain ⟨_,x⟩:=I.hok d _ h
   exact x.oR (fun c v _ q=>q) (fun c q=>by rw [au (neH c _ q (fun _ _ z=>nomatch z))];exact q) fun c xs q=>by rw [au (neH c _ q (fun _ _ z=>nomatch z))];exact q
  ·rw [au hb] at e
   exact (I.hok b o e).oR (fun c v _ q=>q) (fun c q=>by rw [au (neH c _ q (fun _ _ z=>nomatch z))];exact q) fun c xs q=>by rw [au (neH c _ q (fun _ _ z=>nomatch z))];exact q
end
def KA (t:TS):TS:=fun D σ H=>∃ d u,H d=some u/\Mut (some u)/\∀ od,t ⟨fun σ' H'=>H' d=some (.frz od u)/\D.nx σ' (upd H' d u),fun v H'=>H' d=some (.frz od u)/\D.rt v (upd H' d u),fun σ' H'=>H' d=some (.frz od u)/\D.bk σ' (upd H' d u),fun σ' H'=>H' d=some (.frz od u)/\D.ct σ' (upd H' d u)⟩ σ (upd H d (.frz od u))
section
variable {X:Cx}
theorem Iu {st:Stmt} {t:TS} (h:PS X st t):PS X st (KA t):=by
 intro pins s σ H D I hw
 obtain ⟨d,u,hd,mu,hw⟩:=hw
 obtain ⟨od,I1⟩:=I.lock hd mu
 refine thn (h pins s σ _ _ I1 (hw od)) fun f s1 q => ?_
 cases f with
 |next=>obtain ⟨σ',H',I2,e,q⟩:=q;exact ⟨σ',_,I2.unlock e (I.IE hd mu),q⟩
 |brk=>obtain ⟨σ',H',I2,e,q⟩:=q;exact ⟨σ',_,I2.unlock e (I.IE hd mu),q⟩
 |cont=>obtain ⟨σ',H',I2,e,q⟩:=q;exact ⟨σ',_,I2.unlock e (I.IE hd mu),q⟩
 |ret v=>obtain ⟨x,σ',H',I2,r,e,q⟩:=q;exact ⟨x,σ',_,I2.unlock e (I.IE hd mu),r,q⟩
theorem G6 {tg:Expr} {pins:List (Addr×Obj)} {σ : St} {H:Hp} {s:Shared} {R:It->Hp->Prop} {J:It} {tn:Nat->Heap->Prop} {tk:Nat} (I:Inv X pins σ H s) (o:Obj)
 (T:Turn X.prog X.w X.K tg J [s.heap.objs.size] s.heap.objs.size tn) (st:tn 0 (s.heap.push o)) (q:R J H):PIE X pins σ tg R (.ref s.heap.objs.size) {s with heap:=s.heap.push o,toks:=tk}:=by
 refine ⟨s.heap.objs.size,[s.heap.objs.size],tn,J,H,rfl,I.kept fun b ob e=>aH _ e,T,st,fun b hb => ?_,q⟩
 have e:b=s.heap.objs.size:=by simpa using hb
 subst e
 exact I.J9 (ay _) (I.hok.fresh (ay _))
end
def Itc (lo c:Int) (n:Nat):It:=⟨fun i _=>i<n,fun i H x H'=>H'=H/\x=.int (lo+(i:Nat)*c),fun i _=>n<=i⟩
theorem E1 {P:Program} {w:World} {K:Frag} {tg:Expr} (it:Addr) (lo c:Int) (n:Nat):Turn P w K tg (Itc lo c n) [it] it (fun i h=>IsRangeIter h it (lo+(i:Nat)*c) ((n:Int)-(i:Nat)) c) where
 mem:=by simp
 obj:=fun i h st b hb=>by
  have e:b=it:=by simpa using hb
  subst e
  exact ⟨_,st,fun v z=>nomatch z⟩
 keep:=fun i h h' st k=>k it (by simp) _ st
 item:=by
  intro X hP hw hK hc i pins s σ H E I hf st hg
  subst hP hw hK
  obtain ⟨f0,f1,f2,f3,f4,f5⟩:=hf it (by simp)
  have W:=Walks.range (prog:=X.prog) (w:=X.w) (I.ok.hd hc) it lo c n
  refine W.item i s _ _ hg st fun v h' tk hv st' kk => ?_
  obtain ⟨t,rfl⟩:=hv
  have I1:Inv X pins σ H {s with heap:=h',toks:=tk}:=I.turned (fun b o hb e=>kk b o (by simpa using hb) e) f0 f1 f3 f4 f5
  exact ⟨_,rfl,IU (s:={s with heap:=h',toks:=tk}) (n:="range_iterator") st' rfl rfl (by decide) ⟨.int (lo+(i:Nat)*c),H,I1,⟨t,rfl⟩,⟨rfl,rfl⟩,st',fun b hb=>(hf b hb).1⟩⟩
 done:=by
  intro X hP hw hK hc i pins s σ H E I hf st hg
  subst hP hw hK
  obtain ⟨f0,f1,f2,f3,f4,f5⟩:=hf it (by simp)
  exact wpAny_pyNext_range_end (I.ok.hd hc) st (by have:n<=i:=hg;omega) fun h' eb=>⟨rfl,I.turned (t':=s.toks) (fun b o hb e=>eb b o hb e) f0 f1 f3 f4 f5⟩
 self:=fun A i s Q E st h=>wpAny_pyIter_rangeiter st h
def RgC (i j c:Int) (n:Nat):Prop:=c≠0/\c.natAbs<1073741824/\Builtin.Range.small i j c=true/\Builtin.Range.rangeSize i j c=n
def CV (ta:TA):TI:=fun σ H R=>ta σ H fun vs H1=>∃ (i j c:Int) (n:Nat),vs=[.int i,.int j,.int c]/\RgC i j c n/\R (Itc i c n) H1
section
variable {X:Cx} {tg:Expr}
theorem rh {a b c:Expr} {ta:TA} {p pos:Pos} (hg:Gl X "range") (hm:X.mg "range"=none) (ha:PA X [a,b,c] ta)
 (hs:starEach [a,b,c] X.env=(false,eval a X.env)::starEach [b,c] X.env:=by rfl) (hpl:(backTo pos (starEach [b,c] X.env)).any (·.1)=false:=by rfl) :
 PI X tg (.Call (.Name "range" p) [a,b,c] [] pos) (CV ta):=by
 intro pins s σ H R I h
 refine Call_ (qC I hg hm boot_range (PyProof.Rows.callWith_type1 (thn (ha pos pins s σ H _ I h) fun us s1 ⟨vs,H1,I1,r1,q1⟩ => ?_) hs hpl))
 obtain ⟨i,j,k,n,e,⟨c0,c1,c2,c3⟩,q⟩:=q1
 subst e
 cases r1 with
 |cons r rr =>
  cases rr with
  |cons r' rr =>
   cases rr with
   |cons r'' rr =>
    cases rr
    obtain ⟨t,rfl⟩:=r
    obtain ⟨t',rfl⟩:=r'
    obtain ⟨t'',rfl⟩:=r''
    refine call_range_3 c0 ?_ (.inl (PyProof.noPylong_small c1))
    refine wpAny_pyIter_range (IsRange.new ..) c2 ?_
    have I2:Inv X pins σ H1 {s1 with heap:=s1.heap.push {cls:=.type "range",data:=.fields #[.int i t,.int j t',.int k t'']} }:=I1.kept (t':=s1.toks) fun b o e=>aH _ e
    refine G6 (tk:=s1.toks) I2 _ (E1 _ i k n) ?_ q
    have e1:i+((0:Nat):Int)*k=i:=by simp
    have e2:(n:Int)-((0:Nat):Int)=Builtin.Range.rangeSize i j k:=by rw [c3];simp
    show IsRangeIter _ _ (i+((0:Nat):Int)*k) ((n:Int)-((0:Nat):Int)) k
    rw [e1,e2]
    exact bc _ rfl
end
section
variable {X:Cx} {tg:Expr}
end
section
variable {prog:Program} {w:World} {A:Around} {E:Value->Shared->Prop} {s:Shared}
end
theorem Lv {κ : Type} {kvs:List (κ × V)} {vs:List (κ × Value)} (h:KV kvs vs):∀ {i:Nat} {k : κ} {v:V},kvs[i]? = some (k,v)->∃ u,vs[i]? = some (k,u)/\RelV v u:=by
 unfold KV at h
 induction h with
 |nil=>intro i k v e;simp at e
 | @cons a b l₁ l₂ r t ih =>
  intro i k v e
  cases i with
  |zero =>
   simp only [List.getElem?_cons_zero,Option.some.injEq] at e
   subst e
   refine ⟨b.2,?_,r.2⟩
   simp only [List.getElem?_cons_zero]
   exact congrArg some (Prod.ext r.1.symm rfl)
  |succ j =>
   simp only [List.getElem?_cons_succ] at e ⊢
   exact ih e
theorem KU {k:Key} {u:Value} (h:uR k u=true):RelV (kV k) u:=by
 rcases eQ h with ⟨i,t,rfl,rfl⟩|⟨x,t,rfl,rfl⟩
 ·exact ⟨t,rfl⟩
 ·exact ⟨t,rfl⟩
section
variable {X:Cx} {pins:List (Addr×Obj)} {σ : St} {H:Hp} {s:Shared} {d:Addr} {o:Obj}
theorem Inv.J7 {kvs:List (Key×V)} (I:Inv X pins σ H s) (h:H d=some (.frz o (.dK kvs))) :
 (d==sysModules)=false/\s.heap.get? d=some o/\o.ExactDict/\∃ (es:Array DictEntry) (ep:Nat) (vs:List (Key×Value)),o.data=.dict es ep/\es.size=kvs.length/\KV kvs vs/\s.heap.DictAt (cY X.prog X.w) d vs ep:=by
 obtain ⟨hd,z,hs,vs,kv,o',es,ep,ho,hx,hdt,r⟩:=I.hok d _ h
 rw [hd] at ho
 cases ho
 refine ⟨hs,hd,hx,es,ep,vs,hdt,?_,kv,o,es,hd,hx,hdt,r⟩
 have l1:=r.2.1.length
 have l2:kvs.length=vs.length:=Paired.length kv
 rw [Array.length_toList] at l1
 omega
end
def Itd (d:Addr) (o:Obj) (kvs:List (Key×V)):It :=
 ⟨fun i H=>H d=some (.frz o (.dK kvs))/\i<kvs.length,fun i H x H'=>H'=H/\∃ k,kvs[i]? = some (k,x),fun i H=>H d=some (.frz o (.dK kvs))/\kvs.length<=i⟩
def Iti (d:Addr) (o:Obj) (kvs:List (Key×V)):It :=
 ⟨fun i H=>H d=some (.frz o (.dK kvs))/\i<kvs.length,fun i H x H'=>∃ T k v,kvs[i]? = some (k,v)/\x=.ref T/\H T=none/\H'=upd H T (.tup [kV k,v]),fun i H=>H d=some (.frz o (.dK kvs))/\kvs.length<=i⟩
theorem yJ {o:Obj} {es es':Array DictEntry} {ep ep':Nat} (h:o.data=.dict es ep) (h':o.data=.dict es' ep'):es'=es/\ep'=ep:=by
 rw [h] at h'
 cases h'
 exact ⟨rfl,rfl⟩
section
variable {P:Program} {w:World} {K:Frag} {tg:Expr} {d:Addr} {o:Obj} {es:Array DictEntry} {ep:Nat}
theorem Jn {kvs:List (Key×V)} (it:Addr) (hod:o.data=.dict es ep):Turn P w K tg (Itd d o kvs) [it] it (fun i h=>h.IsValIter it d i kvs.length ep) where
 mem:=by simp
 obj:=fun i h st b hb=>by
  have e:b=it:=by simpa using hb
  subst e
  obtain ⟨oi,e,c,dd⟩:=st
  exact ⟨oi,e,fun v z=>by rw [dd] at z;cases z⟩
 keep:=fun i h h' st k=>st.at fun oi e=>k it (by simp) oi e
 item:=by
  intro X hP hw hK hc i pins s σ H E I hf st hg
  subst hP hw hK
  obtain ⟨hd,hi⟩:=hg
  obtain ⟨f0,f1,f2,f3,f4,f5⟩:=hf it (by simp)
  obtain ⟨hs,hgd,hx,es',ep',vs,hdt,hsz,kv,hm⟩:=I.J7 hd
  obtain ⟨rfl,rfl⟩:=yJ hod hdt
  obtain ⟨⟨k,v⟩,hkv⟩:∃ p,kvs[i]? = some p:=⟨kvs[i],aC hi⟩
  obtain ⟨u,hu,ru⟩:=Lv kv hkv
  have hl:kvs.length=vs.length:=Paired.length kv
  rw [hl] at st
  refine wpAny_pyNext_values_item st hm hu fun h' st' sb => ?_
  have I1:Inv X pins σ H {s with heap:=h' }:=I.turned (t':=s.toks) (fun b ob hb e=>(sb.2 b hb).trans e) f0 f1 f3 f4 f5
  obtain ⟨oi,e,c,dd⟩:=id st'
  refine ⟨u,rfl,IU (s:={s with heap:=h' }) e c dd (by decide) ⟨v,H,I1,ru,⟨rfl,k,hkv⟩,?_,fun b hb=>(hf b hb).1⟩⟩
  show h'.IsValIter it d (i+1) kvs.length _
  rw [hl]
  exact st'
 done:=by
  intro X hP hw hK hc i pins s σ H E I hf st hg
  subst hP hw hK
  obtain ⟨hd,hi⟩:=hg
  obtain ⟨f0,f1,f2,f3,f4,f5⟩:=hf it (by simp)
  obtain ⟨hs,hgd,hx,es',ep',vs,hdt,hsz,kv,hm⟩:=I.J7 hd
  obtain ⟨rfl,rfl⟩:=yJ hod hdt
  have hl:kvs.length=vs.length:=Paired.length kv
  rw [hl] at st
  exact wpAny_pyNext_values_end (I.ok.hd hc) st hm (eR (by omega)) fun h' eb=>⟨rfl,I.turned (t':=s.toks) (fun b ob hb e=>eb b ob hb e) f0 f1 f3 f4 f5⟩
 self:=fun A i s Q E st h=>wpAny_pyIter_valiter st h
theorem GI {kvs:List (Key×V)} {elts:List Expr} {kk:Nat} {AW:Pos} (it:Addr) (hod:o.data=.dict es ep) :
 Turn P w K (.Tuple elts kk AW) (Iti d o kvs) [it] it (fun i h=>∃ ok ov,IsItemIter h it d i kvs.length ep ok ov) where
 mem:=by simp
 obj:=fun i h st b hb=>by
  have e:b=it:=by simpa using hb
  subst e
  obtain ⟨ok,ov,e⟩:=st
  exact ⟨_,e,fun v z=>nomatch z⟩
 keep:=fun i h h' st k=>let ⟨ok,ov,e⟩:=st;⟨ok,ov,k it (by simp) _ e⟩
 item:=by
  intro X hP hw hK hc i pins s σ H E I hf st hg
  subst hP hw hK
  obtain ⟨hd,hi⟩:=hg
  obtain ⟨hs,hgd,hx,es',ep',vs,hdt,hsz,kv,hm⟩:=I.J7 hd
  obtain ⟨rfl,rfl⟩:=yJ hod hdt
  obtain ⟨⟨k,v⟩,hkv⟩:∃ p,kvs[i]? = some p:=⟨kvs[i],aC hi⟩
  obtain ⟨u,hu,ru⟩:=Lv kv hkv
  have hl:kvs.length=vs.length:=Paired.length kv
  obtain ⟨ok,ov,he⟩:=st
  rw [hl] at he
  have hlt:it<s.heap.objs.size:=aI he
  refine wpAny_pyNext_items_item he hm hu fun key h' PB ho hT hz hk => ?_
  refine ⟨_,rfl,wpAny_letOwnedTupleGo_items (s:={s with heap:=h' }) ho fun h'' he' sb => ?_⟩
  have hT2:h''.get? s.heap.objs.size=some {cls:=.type "tuple",data:=.seq #[key,u]}:=(sb.2 _ (gG hlt)).trans hT
  have new:fB X.prog X.w (upd H s.heap.objs.size (.tup [kV k,v])) h'' s.heap.objs.size (.tup [kV k,v]) :=
   ⟨by show 2<=sizeLine;decide,[key,u],.cons (KU (show uR k key=true from PB)) (.cons ru .nil),⟨_,hT2,rfl,_,rfl⟩⟩
  have I1:Inv X pins σ (upd H s.heap.objs.size (.tup [kV k,v])) {s with heap:=h'' } :=
   I.vH (t':=s.toks) (ch:=[it]) (fun b ob hb e=>(sb.2 b (by simpa using hb)).trans (hk b ob (by simpa using hb) e)) hf (ay _) new
  refine ⟨.ref s.heap.objs.size,_,I1,rfl,⟨_,k,v,hkv,rfl,I.hok.fresh (ay _),rfl⟩,⟨key,u,?_⟩,fun b hb => ?_⟩
  ·rw [hl];exact he'
  ·have e:b=it:=by simpa using hb
   rw [e,au (bD hlt)]
   exact (hf it (by simp)).1
 done:=by
  intro X hP hw hK hc i pins s σ H E I hf st hg
  subst hP hw hK
  obtain ⟨hd,hi⟩:=hg
  obtain ⟨f0,f1,f2,f3,f4,f5⟩:=hf it (by simp)
  obtain ⟨hs,hgd,hx,es',ep',vs,hdt,hsz,kv,hm⟩:=I.J7 hd
  obtain ⟨rfl,rfl⟩:=yJ hod hdt
  have hl:kvs.length=vs.length:=Paired.length kv
  obtain ⟨ok,ov,he⟩:=st
  rw [hl] at he
  exact wpAny_pyNext_items_end (I.ok.hd hc) he hm (eR (by omega)) fun h' eb=>⟨rfl,I.turned (t':=s.toks) (fun b ob hb e=>eb b ob hb e) f0 f1 f3 f4 f5⟩
 self:=fun A i s Q E st h=>let ⟨_,_,e⟩:=st;PySem.W.kcp_self e h
end
def LB (td:TE):TI:=fun σ H R=>td σ H fun x H1=>∃ d o kvs,x=.ref d/\H1 d=some (.frz o (.dK kvs))/\R (Itd d o kvs) H1
def Hs (td:TE):TI:=fun σ H R=>td σ H fun x H1=>∃ d o kvs,x=.ref d/\H1 d=some (.frz o (.dK kvs))/\R (Iti d o kvs) H1
section
variable {X:Cx} {tg e:Expr} {td:TE} {apos ji:Pos}
theorem JI (he:PE X e td) (uY:attributeBase e "values" X.env (eval e X.env)=eval e X.env:=by rfl) (uX:(apos.endLine==ji.line)=true:=by rfl):PI X tg (.Call (.Attribute e "values" apos) [] [] ji) (LB td):=by
 intro pins s σ H R I h
 refine wpAny_Call_method (T:="dict") (id:="dict.values") uY rfl uX F.plainAttrs_dict F.slot_dict_values F.type_dict_values (thn (he pins s σ H _ I h) fun u s1 ⟨x,H1,I1,rx,d,o,kvs,ex,hd,q⟩ => ?_)
 subst ex
 obtain rfl:u=Value.ref d:=rx
 obtain ⟨hs,hgd,hx,es,ep,vs,hdt,hsz,kv,hm⟩:=I1.J7 hd
 have hl:kvs.length=vs.length:=Paired.length kv
 refine ⟨hm.dictOf.typeIs,hm.dictOf.mapOf.noDict,?_⟩
 have I2:Inv X pins σ H1 {s1 with heap:=s1.heap.push {cls:=.type "dict_values",data:=.fields #[.ref d]} }:=I1.kept (t':=s1.toks) fun b ob q=>aH _ q
 have fin:wpAny (model X.prog X.w) X.A (pyIter (.ref s1.heap.objs.size)) (PIE X pins σ tg R) X.xe {s1 with heap:=s1.heap.push {cls:=.type "dict_values",data:=.fields #[.ref d]} }:=by
  refine wpAny_pyIter_values (d:=d) (knd:=cY X.prog X.w) ⟨_,bc _ rfl,rfl,rfl⟩ (hm.push _) (G6 (tk:=s1.toks) I2 _ (Jn _ hdt) ⟨_,bc _ rfl,rfl,?_⟩ q)
  rw [hl]<;>rfl
 show wpAny _ _ (callWith ji (.builtin "dict.values") [.ref d] [] []) _ X.xe s1
 exact method_meetsIn F.slot_dict_values F.entry_dict_values rfl (PySem.evalArgs_none ⟨rfl,hm.dictOf.typeIs,F.args_dict_values_1 _,_,meets_dict_values (cY X.prog X.w) d hs,⟨vs,hm.dictOf⟩,fin⟩)
theorem K6 {elts:List Expr} {kk:Nat} {AW:Pos} (he:PE X e td) (uY:attributeBase e "items" X.env (eval e X.env)=eval e X.env:=by rfl) (uX:(apos.endLine==ji.line)=true:=by rfl) :
 PI X (.Tuple elts kk AW) (.Call (.Attribute e "items" apos) [] [] ji) (Hs td):=by
 intro pins s σ H R I h
 refine wpAny_Call_method (T:="dict") (id:="dict.items") uY rfl uX F.plainAttrs_dict F.slot_dict_items F.type_dict_items (thn (he pins s σ H _ I h) fun u s1 ⟨x,H1,I1,rx,d,o,kvs,ex,hd,q⟩ => ?_)
 subst ex
 obtain rfl:u=Value.ref d:=rx
 obtain ⟨hs,hgd,hx,es,ep,vs,hdt,hsz,kv,hm⟩:=I1.J7 hd
 have hl:kvs.length=vs.length:=Paired.length kv
 refine ⟨hm.dictOf.typeIs,hm.dictOf.mapOf.noDict,?_⟩
 have I2:Inv X pins σ H1 {s1 with heap:=s1.heap.push {cls:=.type "dict_items",data:=.fields #[.ref d]} }:=I1.kept (t':=s1.toks) fun b ob q=>aH _ q
 have fin:wpAny (model X.prog X.w) X.A (pyIter (.ref s1.heap.objs.size)) (PIE X pins σ (.Tuple elts kk AW) R) X.xe {s1 with heap:=s1.heap.push {cls:=.type "dict_items",data:=.fields #[.ref d]} }:=by
  refine wpAny_pyIter_items (d:=d) (knd:=cY X.prog X.w) ⟨_,bc _ rfl,rfl,rfl⟩ (hm.push _) (G6 (tk:=s1.toks) I2 _ (GI _ hdt) ⟨.none,.none,?_⟩ q)
  rw [hl]
  exact bc _ rfl
 show wpAny _ _ (callWith ji (.builtin "dict.items") [.ref d] [] []) _ X.xe s1
 exact method_meetsIn F.slot_dict_items F.entry_dict_items rfl (PySem.evalArgs_none ⟨rfl,hm.dictOf.typeIs,F.args_dict_items_1 _,_,meets_dict_items (cY X.prog X.w) d hs,⟨vs,hm.dictOf⟩,fin⟩)
end
def Ite (K:Frag) (a:Addr):It :=
 ⟨fun i H=>∃ (xs:List V) (x:V),SqL K H a xs/\xs[i]? = some x,fun i H v H'=>∃ T x,v=.ref T/\H T=none/\H'=upd H T (.tup [.int (i:Nat),x])/\∀ xs,SqL K H a xs->xs[i]? = some x,fun i H=>∃ xs:List V,SqL K H a xs/\xs.length<=i⟩
theorem Jp {P:Program} {w:World} {K:Frag} {elts:List Expr} {kk:Nat} {AW:Pos} (a e it:Addr) :
 Turn P w K (.Tuple elts kk AW) (Ite K a) [e,it] e (fun i h=>(∃ old,IsEnum h e it ((i:Nat):Int) old)/\h.IsListIter it a i/\e≠it) where
 mem:=by simp
 obj:=fun i h st b hb=>by
  obtain ⟨⟨old,he⟩,⟨o,ho,hc,hd⟩,_⟩:=st
  have e':b=e\/b=it:=by simpa using hb
  rcases e' with z|z
  ·rw [z];exact ⟨_,he,fun v q=>nomatch q⟩
  ·rw [z];exact ⟨o,ho,fun v q=>by rw [hd] at q;cases q⟩
 keep:=fun i h h' st k=>let ⟨⟨old,he⟩,hi,hne⟩:=st;⟨⟨old,k e (by simp) _ he⟩,hi.at fun o q=>k it (by simp) o q,hne⟩
 item:=by
  intro X hP hw hK hc i pins s σ H E I hf st hg
  subst hP hw hK
  obtain ⟨⟨old,he⟩,hit,hne⟩:=st
  obtain ⟨xs,x,hq,hx⟩:=hg
  obtain ⟨its,rv,p,hz⟩:=I.list hq
  obtain ⟨u,hu,ru⟩:=rv.get hx
  have hel:e<s.heap.objs.size:=aI he
  have hil:it<s.heap.objs.size:=by obtain ⟨_,q,_⟩:=hit;exact aI q
  refine wpAny_pyNext_enum_item he hit p.isList (x:=u) (by simpa using hu) hne fun h' ho S8 hT hsz hk => ?_
  refine ⟨_,rfl,wpAny_letOwnedTupleGo_enum (s:={s with heap:=h',toks:=s.toks+1}) ho fun h'' he' sb => ?_⟩
  have hT2:h''.get? s.heap.objs.size=some {cls:=.type "tuple",data:=.seq #[.int i s.toks,u]}:=(sb.2 _ (gG hel)).trans hT
  have new:fB X.prog X.w (upd H s.heap.objs.size (.tup [.int (i:Nat),x])) h'' s.heap.objs.size (.tup [.int (i:Nat),x]) :=
   ⟨by show 2<=sizeLine;decide,[.int i s.toks,u],.cons ⟨_,rfl⟩ (.cons ru .nil),⟨_,hT2,rfl,_,rfl⟩⟩
  have I1:Inv X pins σ (upd H s.heap.objs.size (.tup [.int (i:Nat),x])) {s with heap:=h'',toks:=s.toks+1} :=
   I.vH (ch:=[e,it]) (fun b ob hb q=>(sb.2 b (fun z=>hb (by simp [z]))).trans (hk b ob (fun z=>hb (by simp [z])) (fun z=>hb (by simp [z])) q)) hf (ay _) new
  refine ⟨.ref s.heap.objs.size,_,I1,rfl,⟨_,x,rfl,I.hok.fresh (ay _),rfl,fun ys hy=>by rw [I.FT hy hq];exact hx⟩,⟨⟨u,?_⟩,S8.at fun o q=>(sb.2 it (Ne.symm hne)).trans q,hne⟩,fun b hb => ?_⟩
  ·have e1:((i+1:Nat):Int)=(i:Int)+1:=by omega
   rw [e1];exact he'
  ·have hb':b<s.heap.objs.size:=by
    have e':b=e\/b=it:=by simpa using hb
    rcases e' with z|z
    ·rw [z];exact hel
    ·rw [z];exact hil
   rw [au (bD hb')]
   exact (hf b hb).1
 done:=by
  intro X hP hw hK hc i pins s σ H E I hf st hg
  subst hP hw hK
  obtain ⟨⟨old,he⟩,hit,hne⟩:=st
  obtain ⟨xs,hq,hx⟩:=hg
  obtain ⟨its,rv,p,hz⟩:=I.list hq
  obtain ⟨f0,f1,f2,f3,f4,f5⟩:=hf it (by simp)
  have hl:=rv.length
  exact wpAny_pyNext_enum_end (I.ok.hd hc) he hit p.isList (by simp;omega) fun h' eb=>⟨rfl,I.turned (t':=s.toks) (fun b o hb q=>eb b o hb q) f0 f1 f3 f4 f5⟩
 self:=fun A i s Q E st h=>let ⟨⟨_,he⟩,_⟩:=st;wpAny_pyIter_enum he h
def IP (K:Frag) (ta:TA):TI:=fun σ H R=>ta σ H fun vs H1=>∃ a xs,vs=[.ref a]/\SqL K H1 a xs/\R (Ite K a) H1
theorem Iy {X:Cx} {e:Expr} {ta:TA} {p pos AW:Pos} {elts:List Expr} {kk:Nat} (hg:Gl X "enumerate") (hm:X.mg "enumerate"=none) (ha:PA X [e] ta) (hs:starEach [e] X.env=[(false,eval e X.env)]:=by rfl) :
 PI X (.Tuple elts kk AW) (.Call (.Name "enumerate" p) [e] [] pos) (IP X.K ta):=by
 intro pins s σ H R I h
 refine Call_ (qC I hg hm boot_enumerate (PyProof.Rows.callWith_type1 (thn (ha pos pins s σ H _ I h) fun us s1 ⟨vs,H1,I1,r1,q1⟩ => ?_) hs rfl))
 obtain ⟨a,xs,ex,hq,q⟩:=q1
 subst ex
 cases r1 with
 |cons r rr =>
  cases rr
  cases r
  obtain ⟨its,rv,p',hz⟩:=I1.list hq
  refine call_enumerate_list p'.isList fun h' he hit hsz hk=>wpAny_pyIter_enum he ?_
  have I2:Inv X pins σ H1 {s1 with heap:=h' }:=I1.kept (t':=s1.toks) hk
  refine ⟨s1.heap.objs.size+1,[s1.heap.objs.size+1,s1.heap.objs.size],_,_,H1,rfl,I2,Jp a (s1.heap.objs.size+1) s1.heap.objs.size,⟨⟨.none,he⟩,hit,Nat.succ_ne_self _⟩,fun b hb => ?_,q⟩
  have e':b=s1.heap.objs.size+1\/b=s1.heap.objs.size:=by simpa using hb
  have hle:s1.heap.objs.size<=b:=by
   rcases e' with z|z
   ·rw [z];exact iq _ _
   ·rw [z];exact ay _
  exact I1.J9 hle (I1.hok.fresh hle)
theorem Ki:bootBuiltins "zip"=some (.type "zip"):=by decide +kernel
end L2
section
namespace Mf
open PySem PyProof.Rows
theorem xY (m:Nat):∀ n:Nat,(m ^^^ n)+2*(m &&& n)=m+n:=by
 induction m using Nat.strongRecOn with
 |_ m ih =>
  intro n
  by_cases h0:m=0
  ·subst h0
   simp
  ·have ih':=ih (m / 2) (by omega) (n / 2)
   rw [<-Nat.xor_div_two,<-Nat.and_div_two] at ih'
   have o1:=@Nat.xor_mod_two_eq_one m n
   have a1:=@Nat.and_mod_two_eq_one m n
   omega
theorem wI {x y:Int} (hx:0<=x) (hy:0<=y):Builtin.bitXor x y=((x.toNat ^^^ y.toNat:Nat):Int):=by
 have e:=xY x.toNat y.toNat
 rw [bitXor_and,bitAnd_pp hx hy]
 omega
theorem L5 {x y:Int} (hx:0<=x) (hy:0<=y):Builtin.bitOr x y=((x.toNat ||| y.toNat:Nat):Int):=by
 have e:=nat_or_add_and x.toNat y.toNat
 rw [bitOr_and,bitAnd_pp hx hy]
 omega
end Mf
end
section
namespace TL
open PySem PySem.Builtin PySem.Builtin.Str PySem.StrLaws
end TL
end
namespace L2
open PySem PySem.Spec PyProof.Rows
section
variable {X:Cx} {pins:List (Addr×Obj)} {σ : St} {H:Hp} {s:Shared} {Q:VK}
end
section
variable {X:Cx}
end
section
variable {X:Cx} {o e:Expr} {to te:TE}
end
end L2
namespace L2
open PySem PySem.Spec PyProof.Rows
section
variable {X:Cx}
end
end L2
namespace Att
open PySem PySem.W PySem.Calls PyProof.Rows
section
variable {prog:Program} {w:World} {A:Around} {E:Value->Shared->Prop} {s:Shared} {K:Frag}
end
end Att
namespace L2
open PySem PySem.Spec PyProof.Rows
end L2
namespace L2
open PySem PySem.Spec PyProof.Rows
abbrev KOf {K:Frag} {h:Heap} (_:K.In h):Frag:=K
end L2
namespace L2
open PySem PySem.Spec PyProof.Rows
abbrev CX0:CXT:=fun _ _ _ _ _ _=>False
abbrev E0:XK:=fun _ _ _=>False
theorem FE {X:Cx}:Passes CX0 X E0:=fun _ _ _ _ _ _ _ h=>h.elim
structure Fun (K:Frag) (x qual:Str) (st:Stmt) (f:Addr) (fd:FuncData):Prop where
 ex:∃ (oc:Value) (od:Option Addr) (kV doc pm:Value) (an:Option Addr) (cdv ct:Value) (osl:Array (Option Value)),
  fd=PySem.W.fnOf x qual (iQ st) (gC st) (aB st) .none kV doc pm an cdv ct/\K.lookup f=some ⟨oc,od,.func fd,osl⟩/\PySem.W.codeIn K cdv qual=true
 kp:PySem.W.keepIn K (.ref f)=true
section
variable {P:Program} {w:World} {K:Frag} {mg:Str->Option Value} {base:Heap}
theorem Fun.ok {x qual:Str} {st:Stmt} {f:Addr} {fd:FuncData} {N ps:List Str} {k:Nat} {sp:Sp} (F:Fun K x qual st f fd) (S:aP N ps (aB st)) (len:∀ vs H Q E,sp vs H Q E->vs.length=ps.length)
 (LL:∀ (cdv:Value) (A:Around) (outer:List Env) (s:Shared) (H:Hp) (vs:List V) (Q:VK) (E:XK),g7 k (A.deeper (envOfC qual (aB st) s.heap.objs.size f cdv))->sp vs H Q E ->
   ∃ t,PSs (HH CX0 P w K mg base N qual (aB st) f cdv A outer s H E).nox (gC st) t/\t {nx:=fun _ H'=>Q .non H',rt:=Q} (start N vs) H):pM P w K mg base CX0 (k+1) f fd ps sp:=by
 obtain ⟨oc,od,kV,doc,pm,an,cdv,ct,osl,rfl,lk,hcd⟩:=F.ex
 refine RH lk hcd S len fun A outer s H vs Q E hr hsp => ?_
 obtain ⟨t,h,q⟩:=LL cdv A outer s H vs Q E hr hsp
 exact ⟨t,h.nox,q⟩
theorem Fun.binds {x qual:Str} {st:Stmt} {f:Addr} {fd:FuncData} {ps:List Str} (F:Fun K x qual st f fd)
 (h:∀ (kV doc pm:Value) (an:Option Addr) (cdv ct:Value) (us:List Value),us.length=ps.length->bindArgs (PySem.W.fnOf x qual (iQ st) (gC st) (aB st) .none kV doc pm an cdv ct) ⟨us,[]⟩=pure (ps.zip us)):Binds K fd ps []:=by
 obtain ⟨oc,od,kV,doc,pm,an,cdv,ct,osl,rfl,lk,hcd⟩:=F.ex
 exact .all (h kV doc pm an cdv ct)
theorem wz {x qual:Str} {st:Stmt} {f:Addr} {oc:Value} {od an:Option Addr} {osl:Array (Option Value)} {kV doc pm cdv ct:Value} (l:K.lookup f=some ⟨oc,od,.func (PySem.W.fnOf x qual (iQ st) (gC st) (aB st) .none kV doc pm an cdv ct),osl⟩)
 (c:PySem.W.codeIn K cdv qual=true) (k:PySem.W.keepIn K (.ref f)=true):Fun K x qual st f (PySem.W.fnOf x qual (iQ st) (gC st) (aB st) .none kV doc pm an cdv ct):=⟨⟨oc,od,kV,doc,pm,an,cdv,ct,osl,rfl,l,c⟩,k⟩
end
theorem lA {A:Around} {k:Nat} (hr:g7 k A):A.units+1<cLine:=Nat.lt_of_le_of_lt (Nat.add_le_add_left (by decide:1<=64) _) hr.units
section
variable {X:Cx}
theorem pv (i:Nat) {x:Str} {pos:Pos} (hN:X.N[i]? = some x:=by rfl) (hv:Vis X.env.scope x:=by first|exact Or.inl rfl|exact Or.inr (Or.inl rfl)|exact Or.inr (Or.inr rfl)) (hd:(x==("__debug__":Str))=false:=by decide)
 (hcd:(x==("__classdict__":Str))=false:=by decide):PE X (.Name x pos) (af i):=O5 hN hv hd hcd
end
theorem D8 {c A B:Prop} [Decidable c] (h1:c->A) (h2:¬c->B):if c then A else B:=by
 by_cases h:c
 ·rw [if_pos h]
  exact h1 h
 ·rw [if_neg h]
  exact h2 h
def bf (H H':Hp):Prop:=∀ b o,H b=some o->H' b=some o
theorem bf.refl (H:Hp):bf H H:=fun _ _ h=>h
theorem bf.trans {H H1 H2:Hp} (a:bf H H1) (b:bf H1 H2):bf H H2:=fun c o h=>b c o (a c o h)
theorem bf.free {H H':Hp} (e:bf H H') {l:Addr} (h:H' l=Option.none):H l=Option.none:=by
 cases q:H l with
 |none=>rfl
 |some o =>
  rw [e l o q] at h
  cases h
theorem bf.seq {K:Frag} {H H':Hp} {a:Addr} {xs:List V} (e:bf H H') (h:SqL K H a xs):SqL K H' a xs:=by
 rcases h with (h|⟨o,h⟩)|h
 ·exact .inl (.inl (e _ _ h))
 ·exact .inl (.inr ⟨o,e _ _ h⟩)
 ·exact .inr h
section
variable {κ : Type} [DecidableEq κ]
theorem EY {kvs:List (κ × V)} {k : κ} (h:b0 kvs k=none):¬k∈kvs.map (·.1):=by
 intro m
 obtain ⟨p,hp,e⟩:=bx.mp m
 have q:(kvs.any fun kv=>decide (kv.1=k))=true:=pO.mpr ⟨p,hp,decide_eq_true e⟩
 rw [kH,h] at q
 exact absurd q (by simp)
theorem Mx {kvs:List (κ × V)} {k : κ} {v:V} (h:b0 kvs k=some v):k∈kvs.map (·.1):=by
 have q:(kvs.any fun kv=>decide (kv.1=k))=true:=by
  rw [kH,h]
  all_goals rfl
 obtain ⟨p,hp,e⟩:=pO.mp q
 exact bx.mpr ⟨p,hp,of_decide_eq_true e⟩
theorem IF:∀ {l:List κ} {k : κ},l.Nodup->¬k∈l->(l++[k]).Nodup
 | [],k,_,_=>by simp
 |a::r,k,h,hk=>by
  obtain ⟨h1,h2⟩:=ee.mp h
  show (a::(r++[k])).Nodup
  refine ee.mpr ⟨fun m => ?_,IF h2 fun m=>hk (ae.mpr (Or.inr m))⟩
  rcases aQ.mp m with q|q
  ·exact h1 q
  ·exact hk (ae.mpr (Or.inl (aO.mp q).symm))
theorem IG {kvs:List (κ × V)} {k : κ} (v:V) (hn:(kvs.map (·.1)).Nodup) (h:b0 kvs k=none):((putK kvs k v).map (·.1)).Nodup:=by
 rw [KZ v h,bt]
 exact IF hn (EY h)
theorem C3 {p : κ × V} {r:List (κ × V)} {k : κ} (e:p.1=k):kL (p::r) k=kL r k:=by
 unfold kL
 rw [pN,if_neg (by simp [e])]
theorem C4 {p : κ × V} {r:List (κ × V)} {k : κ} (e:¬p.1=k):kL (p::r) k=p::kL r k:=by
 unfold kL
 rw [pN,if_pos (by simp [e])]
theorem Kb {kvs:List (κ × V)} {k : κ} {p : κ × V} (h:p∈kL kvs k):p∈kvs:=(fz.mp h).1
theorem zK:∀ {kvs:List (κ × V)} {k : κ},(kvs.map (·.1)).Nodup->((kL kvs k).map (·.1)).Nodup
 | [],_,_=>ff
 |p::r,k,h=>by
  have h:(p.1::r.map (·.1)).Nodup:=h
  obtain ⟨h1,h2⟩:=ee.mp h
  by_cases e:p.1=k
  ·rw [C3 e]
   exact zK h2
  ·rw [C4 e]
   show (p.1::(kL r k).map (·.1)).Nodup
   refine ee.mpr ⟨fun m=>h1 ?_,zK h2⟩
   obtain ⟨q,hq,eq⟩:=bx.mp m
   exact bx.mpr ⟨q,Kb hq,eq⟩
end
end L2
section
set_option maxRecDepth 100000
set_option maxHeartbeats 2000000
namespace L2
open PySem PySem.Spec PyProof.Rows
open PySem.W (WData Codec OpenSpec Well WellAll ReadsW ReadsAllW)
mutual
inductive Dw (K:Frag) (H:Hp):V->WData->Prop
 |non:Dw K H .non .none
 |bl (b:Bool):Dw K H (.bl b) (.bool b)
 |int (i:Int):Dw K H (.int i) (.int i)
 |str (x:Str):Dw K H (.str x) (.str x)
 |byt (b:Array UInt8):Dw K H (.byt b) (.bytes b.toList)
 |lst {a:Addr} {xs:List V} {ds:List WData}:SqL K H a xs->pT K H xs ds->Dw K H (.ref a) (.list ds)
 |tup {a:Addr} {xs:List V} {ds:List WData}:SqT K H a xs->pT K H xs ds->Dw K H (.ref a) (.tuple ds)
inductive pT (K:Frag) (H:Hp):List V->List WData->Prop
 |nil:pT K H [] []
 |cons {v:V} {vs:List V} {d:WData} {ds:List WData}:Dw K H v d->pT K H vs ds->pT K H (v::vs) (d::ds)
end
theorem IW {K:Frag} {H:Hp}:∀ ns:List Int,pT K H (ns.map V.int) (ns.map WData.int)
 | []=>.nil
 |n::r=>.cons (.int n) (IW r)
theorem IM {K:Frag} {H:Hp}:∀ (ns:List Int) (xs:List V),pT K H xs (ns.map WData.int)->xs=ns.map V.int
 | [],xs,h=>by
  cases h
  rfl
 |n::r,xs,h=>by
  cases h with
  |cons h1 h2 =>
   cases h1
   rw [IM r _ h2]<;>rfl
section
variable {P:Program} {w:World} {K:Frag} {H:Hp} {h:Heap} {R:PySem.W.WRecords} {cl:Str->Option Addr}
theorem OQ {a:Addr} {xs:List V} (hok:HOk P w H h) (KX:K.In h) (q:SqL K H a xs):∃ (its:List Value) (o:Obj) (n:Nat),Vals xs its/\h.get? a=some o/\o.cls=.type "list"/\o.data=.seq its.toArray n:=by
 rcases q with q|⟨o,its,n,e,hc,_,hd,_,hv⟩
 ·obtain ⟨_,its,n,hv,e⟩:=(show fB P w H h a (.lst xs) from q.ok hok)
  exact ⟨its,_,n,hv,e,rfl,rfl⟩
 ·exact ⟨its.toList,o,n,hv,KX _ _ e,hc,by simp [hd]⟩
theorem OP {a:Addr} {xs:List V} (hok:HOk P w H h) (KX:K.In h) (q:SqT K H a xs):∃ (its:List Value) (o:Obj) (n:Nat),Vals xs its/\h.get? a=some o/\o.cls=.type "tuple"/\o.data=.seq its.toArray n:=by
 rcases q with q|⟨o,its,n,e,hc,hd,_,hv⟩
 ·obtain ⟨_,its,hv,o,e,hc,n,hd⟩:=(show fB P w H h a (.tup xs) from q.ok hok)
  exact ⟨its,o,n,hv,e,hc,hd⟩
 ·exact ⟨its.toList,o,n,hv,KX _ _ e,hc,by simp [hd]⟩
mutual
theorem Dw.reads (hok:HOk P w H h) (KX:K.In h):∀ (d:WData) (v:V) (u:Value),Dw K H v d->RelV v u->∃ as,ReadsW R cl h u d as
 |.none,_,_,x,r=>by
  cases x
  cases r
  exact ⟨_,ReadsW.none⟩
 |.bool b,_,_,x,r=>by
  cases x
  cases r
  exact ⟨_,ReadsW.bool b⟩
 |.int i,_,_,x,r=>by
  cases x
  obtain ⟨t,rfl⟩:=r
  exact ⟨_,ReadsW.int i t⟩
 |.str s,_,_,x,r=>by
  cases x
  obtain ⟨t,rfl⟩:=r
  exact ⟨_,ReadsW.str s t⟩
 |.bytes b,_,_,x,r=>by
  cases x
  obtain ⟨t,rfl⟩:=r
  exact ⟨_,ReadsW.bytes _ t⟩
 |.list ds,_,_,x,r=>by
  cases x with
  |lst hs ha =>
   cases r
   obtain ⟨its,o,n,rv,ho,hc,hd⟩:=OQ hok KX hs
   obtain ⟨as,hr⟩:=Dw.readsAll hok KX ds _ its ha rv
   exact ⟨_,ReadsW.list ho hc hd hr⟩
 |.tuple ds,_,_,x,r=>by
  cases x with
  |tup hs ha =>
   cases r
   obtain ⟨its,o,n,rv,ho,hc,hd⟩:=OP hok KX hs
   obtain ⟨as,hr⟩:=Dw.readsAll hok KX ds _ its ha rv
   exact ⟨_,ReadsW.tuple ho hc hd hr⟩
 |.float _,_,_,x,_=>by cases x
 |.dict _,_,_,x,_=>by cases x
 |.bytearray _,_,_,x,_=>by cases x
 |.set _,_,_,x,_=>by cases x
 |.frozenset _,_,_,x,_=>by cases x
 |.obj _ _,_,_,x,_=>by cases x
theorem Dw.readsAll (hok:HOk P w H h) (KX:K.In h):∀ (ds:List WData) (vs:List V) (us:List Value),pT K H vs ds->Vals vs us->∃ as,ReadsAllW R cl h us ds as
 | [],_,_,x,r=>by
  cases x
  cases r
  exact ⟨_,ReadsAllW.nil⟩
 |d::ds,_,_,x,r=>by
  cases x with
  |cons h1 h2 =>
   cases r with
   |cons r1 r2 =>
    obtain ⟨as,q1⟩:=Dw.reads hok KX d _ _ h1 r1
    obtain ⟨bs,q2⟩:=Dw.readsAll hok KX ds _ _ h2 r2
    exact ⟨_,ReadsAllW.cons q1 q2⟩
end
end
mutual
def plW:WData->Bool
 |.none=>true
 |.bool _=>true
 |.int _=>true
 |.str _=>true
 |.bytes _=>true
 |.list xs=>xX xs
 |.tuple xs=>xX xs
 |_=>false
def xX:List WData->Bool
 | []=>true
 |x::r=>plW x&&xX r
end
theorem FC {α : Type} {f : α -> WData} (h:∀ a,plW (f a)=true):∀ l:List α,xX (l.map f)=true
 | []=>rfl
 |x::r=>by
  show (plW (f x)&&xX (r.map f))=true
  rw [h x,FC h r]<;>rfl
theorem qy:∀ (c:Codec) (a:c.denote),plW (c.enc a)=true
 |.unit,_=>rfl
 |.bool,_=>rfl
 |.int _ _,_=>rfl
 |.nat _ _,_=>rfl
 |.u8,_=>rfl
 |.bytes _ _,_=>rfl
 |.text _ _ _ _,_=>rfl
 |.list _ _ c,a=>FC (fun x=>qy c x) a
 |.pair c d,a=>by
  show (plW (c.enc a.1)&&(plW (d.enc a.2)&&true))=true
  rw [qy c a.1,qy d a.2]<;>rfl
 |.triple c d e,a=>by
  show (plW (c.enc a.1)&&(plW (d.enc a.2.1)&&(plW (e.enc a.2.2)&&true)))=true
  rw [qy c a.1,qy d a.2.1,qy e a.2.2]<;>rfl
 |.option c,none=>rfl
 |.option c,some x=>qy c x
theorem CF:∀ (cs:List Codec) (a:Codec.denoteAll cs),xX (Codec.encAll cs a)=true
 | [],_=>rfl
 |c::cs,a=>by
  show (plW (c.enc a.1)&&xX (Codec.encAll cs a.2))=true
  rw [qy c a.1,CF cs a.2]<;>rfl
theorem sH:∀ {xs:List WData} {d:WData},d∈xs->d.weight<=WData.weightAll xs
 | [],d,h=>absurd h (by simp)
 |x::r,d,h=>by
  show d.weight<=x.weight+1+WData.weightAll r
  rcases ae.mp h with e|m
  ·rw [e]
   omega
  ·have z:=sH m
   omega
def toV:Value->V
 |.none=>.non
 |.bool b=>.bl b
 |.int i _=>.int i
 |.str x _=>.str x
 |.bytes b _=>.byt b
 |.ref a=>.ref a
 |_=>.non
def OkU (A:List Addr):Value->Prop
 |.none=>True
 |.bool _=>True
 |.int _ _=>True
 |.str _ _=>True
 |.bytes _ _=>True
 |.ref a=>a∈A
 |_=>False
theorem OkU.mono {A B:List Addr} (h:∀ a∈A,a∈B):∀ {u:Value},OkU A u->OkU B u:=fun {u} x=>by
 cases u with
 |ref a=>exact h a x
 |none=>trivial
 |bool b=>trivial
 |int i t=>trivial
 |str s t=>trivial
 |bytes b t=>trivial
 |_=>exact False.elim x
theorem KS {A:List Addr} {u:Value} (x:OkU A u):RelV (toV u) u:=by
 cases u with
 |ref a=>rfl
 |none=>rfl
 |bool b=>rfl
 |int i t=>exact ⟨t,rfl⟩
 |str s t=>exact ⟨t,rfl⟩
 |bytes b t=>exact ⟨t,rfl⟩
 |_=>exact False.elim x
theorem om {A:List Addr}:∀ {vs:List Value},(∀ u∈vs,OkU A u)->Vals (vs.map toV) vs
 | [],_=>.nil
 |u::r,h=>.cons (KS (h u (bY ..))) (om fun x hx=>h x (ba _ hx))
def pU (h:Heap) (A:List Addr) (a:Addr):Prop:=∃ vs:List Value,vs.length<=sizeLine/\(∀ u∈vs,OkU A u) /\
 (h.get? a=some {cls:=.type "list",data:=.seq vs.toArray}\/h.get? a=some {cls:=.type "tuple",data:=.seq vs.toArray})
theorem pU.mono {h:Heap} {A B:List Addr} {a:Addr} (k:∀ a∈A,a∈B) (x:pU h A a):pU h B a:=by
 obtain ⟨vs,h1,h2,h3⟩:=x
 exact ⟨vs,h1,fun u hu=>(h2 u hu).mono k,h3⟩
theorem mN {P:Params} {h:Heap}:∀ {vs:List Value} {ds:List WData},WellAll P h vs ds->vs.length=ds.length
 |_,_,.nil=>rfl
 |_,_,.cons _ b=>by
  show _+1=_+1
  rw [mN b]
theorem Cs {P:Params} {h:Heap} {v:Value} {ds:List WData} (x:Well P h v (.list ds)):∃ (a:Addr) (vs:List Value),v=.ref a/\h.get? a=some {cls:=.type "list",data:=.seq vs.toArray}/\WellAll P h vs ds:=by
 cases x with
 |list ho qD=>exact ⟨_,_,rfl,ho,qD⟩
theorem yR {P:Params} {h:Heap} {v:Value} {ds:List WData} (x:Well P h v (.tuple ds)):∃ (a:Addr) (vs:List Value),v=.ref a/\h.get? a=some {cls:=.type "tuple",data:=.seq vs.toArray}/\WellAll P h vs ds:=by
 cases x with
 |tuple ho qD=>exact ⟨_,_,rfl,ho,qD⟩
theorem Ct {P:Params} {h:Heap} {us:List Value} {d:WData} {ds:List WData} (x:WellAll P h us (d::ds)):∃ (v:Value) (vs:List Value),us=v::vs/\Well P h v d/\WellAll P h vs ds:=by
 cases x with
 |cons a b=>exact ⟨_,_,rfl,a,b⟩
theorem II {n:Nat} (h:n<=1048576):n<=sizeLine:=bB h (by decide)
section
variable {P:Params} {h:Heap}
mutual
theorem L7:∀ (d:WData) (v:Value),Well P h v d->plW d=true->d.weight<=1048576->∃ A:List Addr,OkU A v/\∀ a∈A,pU h A a
 |.none,_,x,_,_=>by
  cases x
  exact ⟨[],trivial,fun a m=>absurd m (by simp)⟩
 |.bool b,_,x,_,_=>by
  cases x
  exact ⟨[],trivial,fun a m=>absurd m (by simp)⟩
 |.int i,_,x,_,_=>by
  cases x
  exact ⟨[],trivial,fun a m=>absurd m (by simp)⟩
 |.str s,_,x,_,_=>by
  cases x
  exact ⟨[],trivial,fun a m=>absurd m (by simp)⟩
 |.bytes b,_,x,_,_=>by
  cases x
  exact ⟨[],trivial,fun a m=>absurd m (by simp)⟩
 |.list ds,_,x,p,z=>by
  obtain ⟨a,vs,rfl,ho,qD⟩:=Cs x
  have z2:WData.weightAll ds<=1048576:=z
  obtain ⟨A,h1,h2⟩:=vw ds _ qD p fun d hd=>bB (sH hd) z2
  have k:∀ b∈A,b∈a::A:=fun b hb=>ba _ hb
  refine ⟨a::A,bY ..,fun b hb => ?_⟩
  rcases ae.mp hb with e|m
  ·rw [e]
   exact ⟨vs,II (by rw [mN qD];exact bB (PySem.W.length_le_weightAllW ds) z2),fun u hu=>(h1 u hu).mono k,.inl ho⟩
  ·exact (h2 b m).mono k
 |.tuple ds,_,x,p,z=>by
  obtain ⟨a,vs,rfl,ho,qD⟩:=yR x
  have z2:WData.weightAll ds<=1048576:=z
  obtain ⟨A,h1,h2⟩:=vw ds _ qD p fun d hd=>bB (sH hd) z2
  have k:∀ b∈A,b∈a::A:=fun b hb=>ba _ hb
  refine ⟨a::A,bY ..,fun b hb => ?_⟩
  rcases ae.mp hb with e|m
  ·rw [e]
   exact ⟨vs,II (by rw [mN qD];exact bB (PySem.W.length_le_weightAllW ds) z2),fun u hu=>(h1 u hu).mono k,.inr ho⟩
  ·exact (h2 b m).mono k
 |.float _,_,_,p,_=>Bool.noConfusion (show false=true from p)
 |.dict _,_,_,p,_=>Bool.noConfusion (show false=true from p)
 |.bytearray _,_,_,p,_=>Bool.noConfusion (show false=true from p)
 |.set _,_,_,p,_=>Bool.noConfusion (show false=true from p)
 |.frozenset _,_,_,p,_=>Bool.noConfusion (show false=true from p)
 |.obj _ _,_,_,p,_=>Bool.noConfusion (show false=true from p)
theorem vw:∀ (ds:List WData) (vs:List Value),WellAll P h vs ds->xX ds=true->(∀ d∈ds,d.weight<=1048576)->∃ A:List Addr,(∀ u∈vs,OkU A u)/\∀ a∈A,pU h A a
 | [],_,x,_,_=>by
  cases x
  exact ⟨[],fun u m=>absurd m (by simp),fun a m=>absurd m (by simp)⟩
 |d::ds,_,x,p,z=>by
  obtain ⟨v,vs,rfl,x1,x2⟩:=Ct x
  have q:plW d=true/\xX ds=true:=pW.mp p
  obtain ⟨A,a1,a2⟩:=L7 d v x1 q.1 (z d (bY ..))
  obtain ⟨B,b1,b2⟩:=vw ds vs x2 q.2 fun e he=>z e (ba _ he)
  have kA:∀ b∈A,b∈A++B:=fun b hb=>aQ.mpr (.inl hb)
  have kB:∀ b∈B,b∈A++B:=fun b hb=>aQ.mpr (.inr hb)
  refine ⟨A++B,fun u hu => ?_,fun b hb => ?_⟩
  ·rcases ae.mp hu with e|m
   ·rw [e]
    exact a1.mono kA
   ·exact (b1 u m).mono kB
  ·rcases aQ.mp hb with m|m
   ·exact (a2 b m).mono kA
   ·exact (b2 b m).mono kB
end
end
def Nn (o:Obj):Option HO:=match o.data with
 |.seq vs _=>if (o.cls==Value.type "list")=true then some (.frz o (.lst (vs.toList.map toV))) else some (.frz o (.tup (vs.toList.map toV)))
 |_=>none
def pq (K:Frag) (h:Heap) (A:List Addr):Hp:=fun b=>if b∈A then (if (K.lookup b).isNone=true then (h.get? b).bind Nn else none) else none
def Gy (H:Hp):Prop:=∀ b,H b=none\/∃ o u,H b=some (.frz o u)
theorem F0 (vs:List Value):Nn {cls:=.type "list",data:=.seq vs.toArray}=some (.frz {cls:=.type "list",data:=.seq vs.toArray} (.lst (vs.map toV))):=by
 show (if (Value.type "list"==Value.type "list")=true then some (HO.frz {cls:=.type "list",data:=.seq vs.toArray} (.lst (vs.toArray.toList.map toV))) else some (HO.frz {cls:=.type "list",data:=.seq vs.toArray} (.tup (vs.toArray.toList.map toV))))=_
 rw [if_pos (beq_self_eq_true _)]
theorem FZ (vs:List Value):Nn {cls:=.type "tuple",data:=.seq vs.toArray}=some (.frz {cls:=.type "tuple",data:=.seq vs.toArray} (.tup (vs.map toV))):=by
 show (if (Value.type "tuple"==Value.type "list")=true then some (HO.frz {cls:=.type "tuple",data:=.seq vs.toArray} (.lst (vs.toArray.toList.map toV))) else some (HO.frz {cls:=.type "tuple",data:=.seq vs.toArray} (.tup (vs.toArray.toList.map toV))))=_
 rw [if_neg (by decide)]
section
variable {P:Program} {w:World} {K:Frag} {h:Heap} {A:List Addr}
theorem yN {b:Addr} {o:Obj} (hb:b∈A) (hk:K.lookup b=none) (e:h.get? b=some o):pq K h A b=Nn o:=by
 unfold pq
 rw [if_pos hb,hk,if_pos (show (none:Option Obj).isNone=true from rfl),e]<;>rfl
theorem MY {b:Addr} {u:HO} (q:pq K h A b=some u):b∈A/\K.lookup b=none:=by
 unfold pq at q
 by_cases hb:b∈A
 ·rw [if_pos hb] at q
  cases hk:K.lookup b with
  |none=>exact ⟨hb,rfl⟩
  |some o =>
   rw [hk,if_neg (by simp)] at q
   cases q
 ·rw [if_neg hb] at q
  cases q
theorem yM (ar:∀ a∈A,pU h A a) {b:Addr} {u:HO} (q:pq K h A b=some u):K.lookup b=none/\∃ vs:List Value,vs.length<=sizeLine/\(∀ u∈vs,OkU A u) /\
 ((h.get? b=some {cls:=.type "list",data:=.seq vs.toArray}/\u=.frz {cls:=.type "list",data:=.seq vs.toArray} (.lst (vs.map toV))) \/
  (h.get? b=some {cls:=.type "tuple",data:=.seq vs.toArray}/\u=.frz {cls:=.type "tuple",data:=.seq vs.toArray} (.tup (vs.map toV)))):=by
 obtain ⟨hb,hk⟩:=MY q
 obtain ⟨vs,h1,h2,h3⟩:=ar b hb
 refine ⟨hk,vs,h1,h2,?_⟩
 rcases h3 with e|e
 ·rw [yN hb hk e,F0] at q
  exact .inl ⟨e,(ax q).symm⟩
 ·rw [yN hb hk e,FZ] at q
  exact .inr ⟨e,(ax q).symm⟩
theorem Km (ar:∀ a∈A,pU h A a):Gy (pq K h A):=fun b=>by
 cases q:pq K h A b with
 |none=>exact .inl rfl
 |some u =>
  obtain ⟨_,vs,_,_,⟨_,e⟩|⟨_,e⟩⟩:=yM ar q
  ·exact .inr ⟨_,_,by rw [e]⟩
  ·exact .inr ⟨_,_,by rw [e]⟩
theorem NQ (ar:∀ a∈A,pU h A a):HOk P w (pq K h A) h:=fun b u q=>by
 obtain ⟨_,vs,h1,h2,⟨e,rfl⟩|⟨e,rfl⟩⟩:=yM ar q
 ·exact ⟨e,by rw [ab];exact h1,vs,_,om h2,e⟩
 ·exact ⟨e,by rw [ab];exact h1,vs,om h2,_,e,rfl,_,rfl⟩
theorem yF {c c':Value} {vs us:List Value} (e:(some {cls:=c,data:=.seq vs.toArray}:Option Obj)=some {cls:=c',data:=.seq us.toArray}):c=c'/\vs=us:=by
 have e1:=ax e
 have e2:c=c':=congrArg Obj.cls e1
 have e3:Data.seq vs.toArray=Data.seq us.toArray:=congrArg Obj.data e1
 injection e3 with e4
 refine ⟨e2,?_⟩
 have e5:=congrArg Array.toList e4
 simpa using e5
theorem TB (KX:K.In h) (ar:∀ a∈A,pU h A a) {a:Addr} {vs:List Value} (ha:a∈A) (e:h.get? a=some {cls:=.type "list",data:=.seq vs.toArray}):(∀ u∈vs,OkU A u)/\SqL K (pq K h A) a (vs.map toV):=by
 obtain ⟨us,h1,h2,h3⟩:=ar a ha
 have hu:us=vs:=by
  rcases h3 with q|q
  ·rw [e] at q
   exact (yF q).2.symm
  ·rw [e] at q
   exact absurd (Value.type.inj (yF q).1) (by decide)
 subst hu
 refine ⟨h2,?_⟩
 cases hk:K.lookup a with
 |none=>exact .inl (.inr ⟨_,by rw [yN ha hk e,F0]⟩)
 |some o =>
  have e2:=KX a o hk
  rw [e] at e2
  obtain rfl:=ax e2
  exact .inr ⟨_,us.toArray,_,hk,rfl,rfl,rfl,by rw [aL];exact h1,by simpa using om h2⟩
theorem Tz (KX:K.In h) (ar:∀ a∈A,pU h A a) {a:Addr} {vs:List Value} (ha:a∈A) (e:h.get? a=some {cls:=.type "tuple",data:=.seq vs.toArray}):(∀ u∈vs,OkU A u)/\SqT K (pq K h A) a (vs.map toV):=by
 obtain ⟨us,h1,h2,h3⟩:=ar a ha
 have hu:us=vs:=by
  rcases h3 with q|q
  ·rw [e] at q
   exact absurd (Value.type.inj (yF q).1) (by decide)
  ·rw [e] at q
   exact (yF q).2.symm
 subst hu
 refine ⟨h2,?_⟩
 cases hk:K.lookup a with
 |none=>exact .inl (.inr ⟨_,by rw [yN ha hk e,FZ]⟩)
 |some o =>
  have e2:=KX a o hk
  rw [e] at e2
  obtain rfl:=ax e2
  exact .inr ⟨_,us.toArray,_,hk,rfl,rfl,by rw [aL];exact h1,by simpa using om h2⟩
mutual
theorem PZ {Pm:Params} (KX:K.In h) (ar:∀ a∈A,pU h A a):∀ (d:WData) (v:Value),Well Pm h v d->plW d=true->OkU A v->Dw K (pq K h A) (toV v) d
 |.none,_,x,_,_=>by
  cases x
  exact .non
 |.bool b,_,x,_,_=>by
  cases x
  exact .bl b
 |.int i,_,x,_,_=>by
  cases x
  exact .int i
 |.str s,_,x,_,_=>by
  cases x
  exact .str s
 |.bytes b,_,x,_,_=>by
  cases x
  have z:=Dw.byt (K:=K) (H:=pq K h A) b.toArray
  exact z
 |.list ds,_,x,p,hu=>by
  obtain ⟨a,vs,rfl,ho,qD⟩:=Cs x
  obtain ⟨h2,hs⟩:=TB KX ar hu ho
  exact .lst hs (Et KX ar ds _ qD p h2)
 |.tuple ds,_,x,p,hu=>by
  obtain ⟨a,vs,rfl,ho,qD⟩:=yR x
  obtain ⟨h2,hs⟩:=Tz KX ar hu ho
  exact .tup hs (Et KX ar ds _ qD p h2)
 |.float _,_,_,p,_=>Bool.noConfusion (show false=true from p)
 |.dict _,_,_,p,_=>Bool.noConfusion (show false=true from p)
 |.bytearray _,_,_,p,_=>Bool.noConfusion (show false=true from p)
 |.set _,_,_,p,_=>Bool.noConfusion (show false=true from p)
 |.frozenset _,_,_,p,_=>Bool.noConfusion (show false=true from p)
 |.obj _ _,_,_,p,_=>Bool.noConfusion (show false=true from p)
theorem Et {Pm:Params} (KX:K.In h) (ar:∀ a∈A,pU h A a):∀ (ds:List WData) (vs:List Value),WellAll Pm h vs ds->xX ds=true->(∀ u∈vs,OkU A u)->pT K (pq K h A) (vs.map toV) ds
 | [],_,x,_,_=>by
  cases x
  exact .nil
 |d::ds,_,x,p,hu=>by
  obtain ⟨v,vs,rfl,x1,x2⟩:=Ct x
  have q:plW d=true/\xX ds=true:=pW.mp p
  exact .cons (PZ KX ar d v x1 q.1 (hu _ (bY ..))) (Et KX ar ds vs x2 q.2 fun u m=>hu u (ba _ m))
end
end
theorem Jy {P:Program} {w:World} {K:Frag} {mg mb:Str->Option Value} {CX:CXT} {k:Nat} {fa:Addr} {fd:FuncData} {ps:List Str} {sp:Sp} {s₁ : Shared} {vals:List Value} {ds:List WData} {R:PySem.W.WRecords} {cl:Str->Option Addr} {d0:WData}
 (KX:K.In s₁.heap) (hns:s₁.heap.Ns mainGlobals mg) (hb:s₁.heap.Ns builtinsNs mb) (hbb:∀ x:Str,x≠"__name__"->mb x=bootBuiltins x) (SY:s₁.heap.NoLimit) (hg:s₁.gens = #[])
 (hwl:WellAll w.params s₁.heap vals ds) (hpl:xX ds=true) (hwt:∀ d∈ds,d.weight<=1048576) (hr:g7 k callerA)
 (F:∀ base:Heap,K.In base->base.Ns mainGlobals mg->pM P w K mg base CX k fa fd ps sp) (RD:∀ (s:Shared) (us:List Value),us.length=ps.length->BindsTo s fd ⟨us,[]⟩ (ps.zip us)) (hlen:ds.length=ps.length)
 (hsp:∀ (H:Hp) (xs:List V),Gy H->pT K H xs ds->sp xs H (fun v H'=>Dw K H' v d0) fun _ _ _=>False)
 (hCX:∀ H e s',CX [] H s₁ (fun _ _ _=>False) e s'->False) :
 codeAny (model P w) callerA (.call (.ref fa) ⟨vals,[]⟩) (fun r s'=>∃ u as,r=.ok (.ret u)/\ReadsW R cl s'.heap u d0 as/\OldK s₁.heap s'.heap/\s'.os=s₁.os/\AllBare s'.gens) s₁ := by
 obtain ⟨A,ho,ar⟩:=vw ds vals hwl hpl hwt
 have hO:Gy (pq K s₁.heap A):=Km ar
 have hok:HOk P w (pq K s₁.heap A) s₁.heap:=NQ ar
 have hS:=Et KX ar ds vals hwl hpl ho
 have hV:=om ho
 have hK:∀ b u,pq K s₁.heap A b=some u->K.lookup b=none:=fun b u q=>(yM ar q).1
 have noA:∀ {b:Addr} {o:Obj} {es:Array DictEntry} {ep:Nat},s₁.heap.get? b=some o->o.data=.dict es ep->pq K s₁.heap A b=none:=fun {b o es ep} e d=>by
  cases q:pq K s₁.heap A b with
  |none=>rfl
  |some u =>
   obtain ⟨_,vs,_,_,⟨e2,_⟩|⟨e2,_⟩⟩:=yM ar q
   ·rw [e2] at e
    cases e
    have d':Data.seq vs.toArray _=Data.dict es ep:=d
    cases d'
   ·rw [e2] at e
    cases e
    have d':Data.seq vs.toArray _=Data.dict es ep:=d
    cases d'
 generalize pq K s₁.heap A=H at hO hok hS hK noA
 have Jd:∀ {b:Addr} {o:Obj},s₁.heap.get? b=some o->H b=none->(Eb s₁.heap H).get? b=some o:=fun e n=>LH e n
 have nsK:∀ {b:Addr} {m:Str->Option Value},s₁.heap.Ns b m->(Eb s₁.heap H).Ns b m:=fun {b m} ⟨o,es,ep,e,d,r⟩=>⟨o,es,ep,Jd e (noA e d),d,r⟩
 have nK:∀ b o,K.lookup b=some o->H b=none:=fun b o e=>by
  cases q:H b with
  |none=>rfl
  |some u =>
   rw [hK b u q] at e
   cases e
 have hKb:K.In (Eb s₁.heap H):=fun b o e=>Jd (KX b o e) (nK b o e)
 have hM:Mod K mg (Eb s₁.heap H):=⟨hKb,nsK hns,⟨mb,nsK hb,hbb⟩,let ⟨mc,h1,h2⟩:=SY;⟨mc,nsK h1,h2⟩⟩
 have e0:Ik P w K mg (Eb s₁.heap H) callerA [] s₁ H:=⟨rfl,hM,fun b o e=>MX e,Nat.le_of_eq (J1 _ _),trivial,fun b hb=>absurd (show b∈([]:List Addr) from hb) (by simp),hok,.of_eq hg⟩
 have hl:vals.length=ps.length:=by rw [mN hwl];exact hlen
 refine codeAny_mono ((F _ hKb (nsK hns)).run callerA [] s₁ H ⟨vals,[]⟩ vals (vals.map toV) _ _ hr e0 (RD s₁ vals hl) hV (hsp H _ hO hS)) fun r s' x => ?_
 cases r with
 |error e=>exact (hCX H e s' x).elim
 |ok fl =>
  cases fl with
  |next=>exact False.elim x
  |brk=>exact False.elim x
  |cont=>exact False.elim x
  |ret u =>
   obtain ⟨v,H',os,bare,un,Rr,r',q⟩:=x
   have kept:∀ b o,s₁.heap.get? b=some o->s'.heap.get? b=some o:=fun b o e=>by
    cases q2:H b with
    |none=>exact un.keep b o e q2 (by intro z;exact absurd (show b∈([]:List Addr) from z) (by simp)) (by simp)
    |some u2 =>
     rcases hO b with z|⟨ob,u3,z⟩
     ·rw [q2] at z
      cases z
     ·have z2:=un.z0 b ob _ z
      obtain ⟨e1,_⟩:=hok b _ z
      obtain ⟨e2,_⟩:=Rr b _ z2
      rw [e] at e1
      cases e1
      exact e2
   have KX':K.In s'.heap:=fun b o e=>kept b o (KX b o e)
   obtain ⟨as,hrd⟩:=Dw.reads (R:=R) (cl:=cl) Rr KX' d0 v u q r'
   exact ⟨u,as,rfl,hrd,OldK.of_keep kept,os,bare⟩
theorem zP {ds:List WData} (h:WData.layableAll ds=true):∀ d∈ds,d.weight<=1048576:=fun d hd =>
 (PySem.W.layableW_iff.mp (List.all_eq_true.mp h d hd)).2.2
theorem z9:∀ (cs:List Codec) (a:Codec.denoteAll cs),(Codec.encAll cs a).length=cs.length
 | [],_=>rfl
 |c::cs,a=>by
  show (Codec.encAll cs a.2).length+1=cs.length+1
  rw [z9 cs a.2]
theorem Jl {r:OpenSpec} {k:Nat} {q:Program} {loose:List Str} {XP:(Str->Option Value)->Heap->Prop} {YP:World->Heap->Prop} {d:DefRec} {K:Params->Frag} {CX:World->CXT} {ps:List Str} {sp:World->Sp}
 (LC:r.wellSaid=true) (hdf:d.params.defaults=[]) (hlen:r.args.length=ps.length) (hr:g7 k callerA)
 (hY:∀ (w:World) (h:Heap),YP w h->(K w.params).In h)
 (F:∀ (w:World) (mg:Str->Option Value) (fa:Addr) (h:Heap),YP w h->(K w.params).In h->h.Ns mainGlobals mg->mg d.name=some (.ref fa) ->
   ∃ fd:FuncData,(∀ (s:Shared) (us:List Value),us.length=ps.length->BindsTo s fd ⟨us,[]⟩ (ps.zip us)) /\
    ∀ base:Heap,(K w.params).In base->base.Ns mainGlobals mg->pM r.prog w (K w.params) mg base (CX w) k fa fd ps (sp w))
 (hsp:∀ (w:World) (H:Hp) (xs:List V) (a:Codec.denoteAll r.args),Gy H->Codec.withinAll r.args a=true->Codec.app r.args r.asked a=true->pT (K w.params) H xs (Codec.encAll r.args a) ->
   sp w xs H (fun v H'=>Dw (K w.params) H' v (r.ret.enc (Codec.app r.args r.f a))) fun _ _ _=>False)
 (hCX:∀ (w:World) (H:Hp) (s:Shared) (e:Value) (s':Shared),CX w [] H s (fun _ _ _=>False) e s'->False) :
 PySem.W.WalkOS q loose XP YP r d [] (fun f vs=>PySem.call f vs):=by
 intro w s_0 s₁ mg mb G Y fa o pm cd doc dV kV ho hd hcd hD hmg hg args vals as SN S2 hrd hwl hlo
 obtain ⟨a,e1,e2⟩:=PySem.W.os_pre_some SN
 obtain ⟨e3,hwi⟩:=Codec.encAll_of_decAll r.args args a e1
 subst e3
 have KX:=hY w _ Y
 obtain ⟨fd,hb,hF⟩:=F w mg fa _ Y KX G.T.g hmg
 refine PySem.W.enter_call (codeAny_mono (Jy (R:=[]) (cl:=classAt s_0.heap) (d0:=r.ret.enc (Codec.app r.args r.f a)) KX G.T.g G.T.b G.T.builtins G.T.nolimit hg hwl (CF _ _) (zP S2) hr hF hb (by rw [z9];exact hlen)
  (fun H xs hO hS=>hsp w H xs a hO hwi e2 hS) fun H e s'=>hCX w H s₁ e s') fun r' s' hq => ?_)
 obtain ⟨u,as',rfl,h1,h2,h3,h4⟩:=hq
 exact ⟨.inl ⟨u,_,as',rfl,fun _=>rfl,h1,(OpenSpec.post_iff LC hwi _ _).mpr rfl,fun z=>Bool.noConfusion (show false=true from z)⟩,h2,h3,h4⟩
theorem GD {r:OpenSpec} {k:Nat} {q:Program} {loose:List Str} {XP:(Str->Option Value)->Heap->Prop} {YP:World->Heap->Prop} {d:DefRec} {K:Params->Frag} {CX:CXT} {ps:List Str} {sp:Frag->Sp}
 (LC:r.wellSaid=true) (hdf:d.params.defaults=[]) (hlen:r.args.length=ps.length) (hr:g7 k callerA)
 (hY:∀ (w:World) (h:Heap),YP w h->(K w.params).In h)
 (F:∀ (w:World) (mg:Str->Option Value) (fa:Addr) (h:Heap),YP w h->(K w.params).In h->h.Ns mainGlobals mg->mg d.name=some (.ref fa) ->
   ∃ fd:FuncData,(∀ (s:Shared) (us:List Value),us.length=ps.length->BindsTo s fd ⟨us,[]⟩ (ps.zip us)) /\
    ∀ base:Heap,(K w.params).In base->base.Ns mainGlobals mg->pM r.prog w (K w.params) mg base CX k fa fd ps (sp (K w.params)))
 (hsp:∀ (K:Frag) (H:Hp) (xs:List V) (a:Codec.denoteAll r.args),Gy H->Codec.withinAll r.args a=true->Codec.app r.args r.asked a=true->pT K H xs (Codec.encAll r.args a) ->
   sp K xs H (fun v H'=>Dw K H' v (r.ret.enc (Codec.app r.args r.f a))) fun _ _ _=>False)
 (hCX:∀ (H:Hp) (s:Shared) (e:Value) (s':Shared),CX [] H s (fun _ _ _=>False) e s'->False) :
 PySem.W.WalkOS q loose XP YP r d [] (fun f vs=>PySem.call f vs) :=
 Jl (K:=K) (CX:=fun _=>CX) (sp:=fun w=>sp (K w.params)) LC hdf hlen hr hY F (fun w H xs a h1 h2 h3 h4=>hsp (K w.params) H xs a h1 h2 h3 h4) fun _ H s e s'=>hCX H s e s'
end L2
end
set_option maxRecDepth 100000
set_option maxHeartbeats 2000000
namespace L3
open PySem PySem.Spec PyProof.Rows L2
section
variable {X:Cx} {x m:Str} {p pos apos:Pos} {a b c d e o:Expr} {es:List Expr} {ta tb tc td:TE} {t:TA}
structure Bl (mg:Str->Option Value):Prop where
 len:mg "len"=none
 range:mg "range"=none
 sum:mg "sum"=none
 any:mg "any"=none
 all:mg "all"=none
 sorted:mg "sorted"=none
 tuple:mg "tuple"=none
 list:mg "list"=none
 min:mg "min"=none
 max:mg "max"=none
 enumerate:mg "enumerate"=none
 reversed:mg "reversed"=none
 zip:mg "zip"=none
theorem Kj:bootBuiltins "sum"=some (.builtin "sum"):=by decide +kernel
theorem C7:bootBuiltins "any"=some (.builtin "any"):=by decide +kernel
theorem vf:bootBuiltins "sorted"=some (.builtin "sorted"):=by decide +kernel
theorem Kk:bootBuiltins "min"=some (.builtin "min"):=by decide +kernel
theorem xF:bootBuiltins "tuple"=some (.type "tuple"):=by decide +kernel
theorem HS:bootBuiltins "list"=some (.type "list"):=by decide +kernel
theorem MR {i:Int} (hg:Gl X x) (hm:∃ tk,X.mg x=some (.int i tk)) (hd:(x==("__debug__":Str))=false:=by decide):PE X (.Name x pos) (tC (.int i)):=by
 obtain ⟨tk,hm⟩:=hm
 exact IA hg hm ⟨tk,rfl⟩ hd
def Qk (K:Frag) (mg:Str->Option Value) (x:Str) (xs:List V):Prop:=∃ q,mg x=some (.ref q)/\∀ H,SqT K H q xs
def KD (K:Frag) (xs:List V):TE:=fun _ H Q=>∀ q,(∀ H',SqT K H' q xs)->Q (.ref q) H
theorem MQ {xs:List V} (hg:Gl X x) (hm:Qk X.K X.mg x xs) (hd:(x==("__debug__":Str))=false:=by decide):PE X (.Name x pos) (KD X.K xs):=by
 obtain ⟨q,hm,hs⟩:=hm
 intro pins s σ H Q I h
 exact IA (v:=.ref q) hg hm rfl hd pins s σ H Q I (h q hs)
def eP (K:Frag):List V->Hp->VK->Prop:=fun xs H Q=>∃ p ys,xs=[.ref p]/\(SqL K H p ys\/SqT K H p ys)/\Q (.int ys.length) H
def NX:List V->Hp->VK->Prop:=fun xs H Q=>∃ i j,xs=[.int i,.int j]/\Q (.int (if j<i then j else i)) H
def G3 (K:Frag):List V->Hp->VK->Prop:=fun xs H Q=>∃ p ys,xs=[.ref p]/\((SqL K H p ys/\∀ l,H l=none->Q (.ref l) (upd H l (.tup ys)))\/(SqT K H p ys/\Q (.ref p) H))
def Kz (K:Frag) (ta:TE):TT:=fun σ H Q=>ta σ H fun x H'=>∃ k,L8 K x H' k/\Q k H'
def oQ (r r' r'':R2) (ta tb tc td:TE):TE:=fun σ H Q=>ta σ H fun x H1=>tb σ H1 fun y H2=>r x y H2 fun z H3=>∃ k,z=.bl k /\
 (if k=true then tc σ H3 fun w' H4=>r' y w' H4 fun z' H5=>∃ k',z'=.bl k'/\(if k'=true then td σ H5 fun v' H6=>r'' w' v' H6 Q else Q (.bl false) H5) else Q (.bl false) H3)
theorem JK {op op' He:CmpOp} {r r' r'':R2} (ho:OpR X (compareOp op) r) (ho':OpR X (compareOp op') r') (Py:OpR X (compareOp He) r'') (ha:PE X a ta) (hb:PE X b tb) (hc:PE X c tc) (hd:PE X d td)
 (hm:lastMarks [op,op',He] [b,c,d]=false:=by with_unfolding_all rfl):PE X (.Compare a [op,op',He] [b,c,d] pos) (oQ r r' r'' ta tb tc td):=by
 intro pins s σ H Q I h
 refine Compare_chain (thn (ha pins s σ H _ I h) fun v s1 ⟨x,H1,I1,r1,q1⟩=>chain_link (thn (hb pins s1 σ H1 _ I1 q1) fun u s2 ⟨y,H2,I2,r2,q2⟩ =>
  thn (ho pins s2 σ H2 x y v u _ I2 r1 r2 q2) fun d' s3 ⟨z,H3,I3,r3,k,e,q3⟩ => ?_)) hm
 subst e
 cases r3
 refine wpAny_truthy_bool ?_
 cases k with
 |false=>exact ite_ff ⟨.bl false,H3,I3,rfl,q3⟩
 |true =>
  refine ite_tt (chain_link (thn (hc pins s3 σ H3 _ I3 q3) fun w' s4 ⟨z',H4,I4,r4,q4⟩=>thn (ho' pins s4 σ H4 y z' u w' _ I4 r2 r4 q4) fun d'' s5 ⟨z2,H5,I5,r5,k',e',q5⟩ => ?_))
  subst e'
  cases r5
  refine wpAny_truthy_bool ?_
  cases k' with
  |false=>exact ite_ff ⟨.bl false,H5,I5,rfl,q5⟩
  |true=>exact ite_tt (chain_last (thn (hd pins s5 σ H5 _ I5 q5) fun v' s6 ⟨z3,H6,I6,r6,q6⟩=>Py pins s6 σ H6 z' z3 w' v' Q I6 r4 r6 q6))
theorem JG {op op' He:CmpOp} {r r' r'':R2} (ho:OpR X (compareOp op) r) (ho':OpR X (compareOp op') r') (Py:OpR X (compareOp He) r'') (ha:PE X a ta) (hb:PE X b tb) (hc:PE X c tc) (hd:PE X d td)
 (hm:lastMarks [op,op',He] [b,c,d]=false:=by with_unfolding_all rfl):PT X (.Compare a [op,op',He] [b,c,d] pos) (bH (oQ r r' r'' ta tb tc td)):=by
 intro pins s σ H Q I h
 refine isTrue_chain (thn (ha pins s σ H _ I h) fun v s1 ⟨x,H1,I1,r1,q1⟩=>test_link (thn (hb pins s1 σ H1 _ I1 q1) fun u s2 ⟨y,H2,I2,r2,q2⟩ =>
  thn (ho pins s2 σ H2 x y v u _ I2 r1 r2 q2) fun d' s3 ⟨z,H3,I3,r3,k,e,q3⟩ => ?_)) hm
 subst e
 cases r3
 refine wpAny_truthy_bool ?_
 cases k with
 |false =>
  obtain ⟨k',e',q'⟩:=q3
  cases e'
  exact ite_ff ⟨H3,I3,q'⟩
 |true =>
  refine ite_tt (test_link (thn (hc pins s3 σ H3 _ I3 q3) fun w' s4 ⟨z',H4,I4,r4,q4⟩=>thn (ho' pins s4 σ H4 y z' u w' _ I4 r2 r4 q4) fun d'' s5 ⟨z2,H5,I5,r5,k2,e2,q5⟩ => ?_))
  subst e2
  cases r5
  refine wpAny_truthy_bool ?_
  cases k2 with
  |false =>
   obtain ⟨k',e',q'⟩:=q5
   cases e'
   exact ite_ff ⟨H5,I5,q'⟩
  |true =>
   refine ite_tt (test_last (thn (hd pins s5 σ H5 _ I5 q5) fun v' s6 ⟨z3,H6,I6,r6,q6⟩=>thn (Py pins s6 σ H6 z' z3 w' v' _ I6 r4 r6 q6) fun d3 s7 ⟨z4,H7,I7,r7,k3,e3,q7⟩ => ?_))
   subst e3
   cases r7
   exact wpAny_truthy_bool ⟨H7,I7,q7⟩
def D0:V->List V->Hp->VK->Prop:=fun x vs H Q=>∃ (l:Addr) (xs:List V) (i:Nat) (y:V),x=.ref l/\vs=[.int (i:Int),y]/\H l=some (.lst xs)/\xs.length<sizeLine/\i<=xs.length/\Q .non (upd H l (.lst (xs.take i++y::xs.drop i)))
theorem CN:MtM X "list.insert" D0:=by
 intro pins s σ H x vs v us Q I rx rv h
 obtain ⟨l,xs,i,y,rfl,rfl,hH,hz,hi,q⟩:=h
 cases rx
 obtain ⟨u1,u2,rfl,⟨tk,rfl⟩,r2⟩:=vals2 rv
 obtain ⟨z,its,n,r,hl,e⟩:=I.xZ hH
 have h63:(sizeLine:Nat)<2 ^ 63:=zO
 have S9:Builtin.List.listFitsIndex (i:Int)=true:=fitsIndex_both (by omega) (by omega)
 have e1:¬((i:Int)<0):=by omega
 have e2:(i:Int).toNat=i:=aD i
 generalize hx:(i:Int)=x at *
 have hnf:¬(!Builtin.List.listFitsIndex x)=true:=by rw [S9];exact aV
 have hsz:its.toArray.size<=sizeLine:=by rw [aL];omega
 refine call_meets F.slot_list_insert ⟨_,e,rfl⟩ F.entry_list_insert (F.args_list_insert_3 _ _ _) (AutoSeq1.list_insert_list_int_val_1 l its.toArray n x tk u2 hnf hsz)
  ⟨e,.non,_,I.Hj (its':=its.take i++u2::its.drop i) hH e ?_ ((r.take i).append (.cons r2 (r.drop i))) ?_,rfl,q⟩
 ·show (its.toArray.extract 0 (if x<0 then (x+(its.toArray.size:Int)).toNat else min x.toNat its.toArray.size)).push u2++its.toArray.extract (if x<0 then (x+(its.toArray.size:Int)).toNat else min x.toNat its.toArray.size)=(its.take i++u2::its.drop i).toArray
  have e3:min i its.length=i:=by omega
  rw [if_neg e1,e2,aL,e3]
  apply Array.toList_inj.mp
  simp [a8]
 ·simp only [aG,bL,bM,iz]
  omega
structure FnAt (P:Program) (w:World) (K:Frag) (mg:Str->Option Value) (base:Heap) (k:Nat) (x:Str) (ps:List Str) (sp:Sp):Prop where
 ex:∃ (f:Addr) (fd:FuncData),mg x=some (.ref f)/\PySem.W.keepIn K (.ref f)=true/\Binds K fd ps []/\pM P w K mg base CX0 k f fd ps sp
structure MethAt (P:Program) (w:World) (K:Frag) (mg:Str->Option Value) (base:Heap) (k:Nat) (C:Addr) (m:Str) (ps:List Str) (sp:Sp):Prop where
 cl:Cls K C
 ex:∃ (f:Addr) (fd:FuncData),Meth K C m f/\Binds K fd ps []/\pM P w K mg base CX0 k f fd ps sp
structure Ic (P:Program) (w:World) (K:Frag) (mg:Str->Option Value) (base:Heap) (k:Nat) (x:Str) (C:Addr) (ps:List Str) (sp:Sp):Prop where
 ex:∃ (f:Addr) (fd:FuncData),Mk K C f/\mg x=some (.ref C)/\Binds K fd ps []/\pM P w K mg base CX0 k f fd ps sp
variable {k:Nat} {C:Addr} {ps:List Str} {sp:Sp}
theorem Lc (G:FnAt X.prog X.w X.K X.mg X.base k x ps sp) (hr:g7 k X.A) (hg:Gl X x) (ha:PA X (e::es) t) (hdb:(x==("__debug__":Str))=false:=by decide)
 (he:starEach (e::es) X.env=(false,eval e X.env)::starEach es X.env:=by rfl) (hpl:(backTo pos (starEach es X.env)).any (·.1)=false:=by rfl) :
 PE X (.Call (.Name x p) (e::es) [] pos) (bj sp [] E0 t):=by
 obtain ⟨f,fd,hm,hk,hb,F⟩:=G.ex
 exact MT F hr hg hm hk hb .nil FE ha hdb he hpl
theorem c9 {pl:Sem Bool} (G:MethAt X.prog X.w X.K X.mg X.base k C m ps sp) (hr:g7 k X.A) (he:PE X o ta) (ha:PA X (e::es) t)
 (hst:starEach (e::es) X.env=(false,eval e X.env)::starEach es X.env:=by rfl) (hpl:(backTo pos (starEach es X.env)).any (·.1)=false:=by rfl)
 (ht:eval (.Call (.Attribute o m apos) (e::es) [] pos) X.env=(do
   let ov <-eval o X.env
   standAt apos.atName
   let (f,first) <-holding [ov] (getMethod ov m pl)
   callWith pos f first (backTo pos (starEach (e::es) X.env)) (backToKw pos (keywordEach [] X.env))):=by rfl) :
 PE X (.Call (.Attribute o m apos) (e::es) [] pos) (fA C m sp [] E0 ta t):=by
 obtain ⟨f,fd,hm,hb,F⟩:=G.ex
 exact MN he G.cl hm F hr hb .nil FE ha hst hpl ht
theorem rj {pl:Sem Bool} (G:MethAt X.prog X.w X.K X.mg X.base k C m ps sp) (hr:g7 k X.A) (he:PE X o ta)
 (ht:eval (.Call (.Attribute o m apos) [] [] pos) X.env=(do
   let ov <-eval o X.env
   standAt apos.atName
   let (f,first) <-holding [ov] (getMethod ov m pl)
   callWith pos f first (backTo pos (starEach [] X.env)) (backToKw pos (keywordEach [] X.env))):=by rfl) :
 PE X (.Call (.Attribute o m apos) [] [] pos) (fA C m sp [] E0 ta aF):=by
 obtain ⟨f,fd,hm,hb,F⟩:=G.ex
 exact K8 he G.cl hm F hr hb .nil FE ht
theorem K9 (G:Ic X.prog X.w X.K X.mg X.base k x C ps sp) (hr:g7 (k+1) X.A) (hg:Gl X x) (hdb:(x==("__debug__":Str))=false:=by decide):PE X (.Call (.Name x p) [] [] pos) (sC C sp [] E0 aF):=by
 obtain ⟨f,fd,hM,hm,hb,F⟩:=G.ex
 exact La hM F hr hg hm hb .nil FE hdb
def zA:List V->Hp->VK->Prop:=fun vs H Q=>∃ (a:Addr) (kvs:List (Key×V)) (ns:List Int),vs=[V.ref a]/\H a=some (.dK kvs)/\kvs.map (·.1)=ns.map Sum.inl/\ns.length<64 /\
 ∀ (ns':List Int) (p:Addr),ns'.Perm ns->ns'.Pairwise (· <= ·)->H p=none->Q (.ref p) (upd H p (.lst (ns'.map V.int)))
theorem JU:∀ {kvs:List (Key×V)} {vs:List (Key×Value)} {ns:List Int} {us:List Value},KV kvs vs->kvs.map (·.1)=ns.map Sum.inl->us.length=vs.length ->
 (∀ (j:Nat) (v:Value),us[j]? = some v->∃ (kk:Key) (y:Value),vs[j]? = some (kk,y)/\uR kk v=true)->IntsAre us ns:=by
 intro kvs vs ns us r
 induction r generalizing ns us with
 |nil =>
  intro e hl _
  have e1:us=[]:=iy.mp hl
  have e2:ns=[]:=by cases ns with|nil=>rfl|cons _ _=>simp at e
  subst e1 e2
  exact .nil
 |cons h t ih =>
  rename_i kv q Nh vs'
  intro e hl hk
  cases ns with
  |nil=>simp at e
  |cons n ns =>
   cases us with
   |nil=>simp at hl
   |cons u us =>
    rw [aW,aW] at e
    obtain ⟨e1,e2⟩:=List.cons.inj e
    obtain ⟨kk,y,h1,h2⟩:=hk 0 u rfl
    have h3:q=(kk,y):=ax h1
    subst h3
    have h4:kk=Sum.inl n:=h.1.symm.trans e1
    subst h4
    obtain ⟨tk,rfl⟩:=Value.isInt_shape (k:=n) (v:=u) h2
    exact .cons _ _ (ih e2 (by simpa using hl) fun j v hj=>hk (j+1) v (by simpa using hj))
theorem Aa (hc:X.calm=true):xH X (.builtin "sorted") zA:=by
 intro pins s σ H vs us Q I r h
 obtain ⟨a,kvs,ns,rfl,hd,hk,h64,q⟩:=h
 rw [Vals.OY r]
 obtain ⟨hz,hS,ws,rk,hD⟩:kvs.length<=sizeLine/\(a==sysModules)=false/\∃ vs,KV kvs vs/\s.heap.DictOf (cY X.prog X.w) a vs:=I.hok a _ hd
 obtain ⟨ep,hat⟩:=hD.dictAt
 have hln:ns.length=ws.length:=by
  have e1:(kvs.map (·.1)).length=(ns.map (Sum.inl:Int->Key)).length:=congrArg List.length hk
  rw [ab,ab] at e1
  rw [<-e1]
  exact Paired.length rk
 refine Calls.call_function_entry kind_sorted plain_sorted entry_sorted (args_sorted1 _) ?_
 unfold Builtin.«sorted»
 refine wpAny_bind (m:=checkCount "sorted" 1 1 _) (wpAny_pure ?_)
 refine wpAny_bind (PySem.W.kdu_collect (A:=X.A.in1) (PySem.W.kdl_dict (knd:=cY X.prog X.w) (kvs:=ws) (ep:=ep) hS) (I.ok.hd hc) hat (by rw [<-hln];exact DK h64) fun h' tk acc hk' Bw => ?_)
 have I1:Inv X pins σ H {s with heap:=h',toks:=tk}:=I.kept hk'
 have hl:acc.toList.length=ws.length:=by rw [Array.length_toList];exact Bw.1
 have hi:IntsAre acc.toList ns:=JU rk hk hl fun j v e=>Bw.2 j v (by rw [<-Array.getElem?_toList];exact e)
 refine wpAny_bind (wpAny_newList ?_ (by rw [hl,<-hln];exact DK h64))
 have hoL:(h'.push {cls:=.type "list",data:=.seq acc.toList.toArray}).get? h'.objs.size=some (seqObj "list" acc.toList.toArray 0):=bc _ rfl
 have hold:∀ b o,h'.get? b=some o->(h'.push {cls:=.type "list",data:=.seq acc.toList.toArray}).get? b=some o:=fun b o e=>aH _ e
 refine wpAny_bind (wpAny_holding (wpAny_call_entry slot_list_sort ⟨_,hoL,rfl⟩ entry_list_sort (list_sort_tree hoL hi (by rw [hi.length];exact h64) fun out ns' h1 h2 h3=>⟨_,rfl,?_⟩) (args_list_sort _)))
 obtain ⟨ep',he'⟩:=sortedHeap_at (vs:=acc.toList) (out:=out) hoL
 have hlen:(ns'.map V.int).length<=sizeLine:=by rw [ab,h2.length_eq];exact DK h64
 have fr:H h'.objs.size=none:=I1.hok.fresh (ay _)
 refine wpAny_pure ⟨_,rfl,.ref h'.objs.size,upd H h'.objs.size (.lst (ns'.map V.int)),?_,rfl,q ns' _ h2 h3 fr⟩
 exact I1.laid (t':=tk) (fun b o e=>by
  rw [sortedHeap_old (bD (aI e)) (aI (hold b o e))]
  exact hold b o e) (ay _) ⟨hlen,out.toList,ep',ui h1,he'⟩
structure cO (K:Frag) (mg:Str->Option Value) (x qual:Str) (st:Stmt) (ps:List Str):Prop where
 ex:∃ (f:Addr) (fd:FuncData),mg x=some (.ref f)/\Fun K x qual st f fd/\Binds K fd ps []
structure vx (K:Frag) (C:Addr) (x qual:Str) (st:Stmt) (ps:List Str):Prop where
 ex:∃ (f:Addr) (fd:FuncData),Meth K C x f/\Fun K x qual st f fd/\Binds K fd ps []
structure Mb (K:Frag) (C:Addr) (qual:Str) (st:Stmt) (ps:List Str):Prop where
 ex:∃ (f:Addr) (fd:FuncData),Mk K C f/\Fun K "__init__" qual st f fd/\Binds K fd ps []
theorem cO.at {P:Program} {w:World} {K:Frag} {mg:Str->Option Value} {base:Heap} {k:Nat} {x qual:Str} {st:Stmt} {ps:List Str} {sp:Sp} (T:cO K mg x qual st ps) (ok:∀ f fd,Fun K x qual st f fd->pM P w K mg base CX0 k f fd ps sp):FnAt P w K mg base k x ps sp:=by
 obtain ⟨f,fd,h1,h2,h3⟩:=T.ex
 exact ⟨⟨f,fd,h1,h2.kp,h3,ok f fd h2⟩⟩
theorem vx.at {P:Program} {w:World} {K:Frag} {mg:Str->Option Value} {base:Heap} {k:Nat} {C:Addr} {x qual:Str} {st:Stmt} {ps:List Str} {sp:Sp} (T:vx K C x qual st ps) (cl:Cls K C) (ok:∀ f fd,Fun K x qual st f fd->pM P w K mg base CX0 k f fd ps sp):MethAt P w K mg base k C x ps sp:=by
 obtain ⟨f,fd,h1,h2,h3⟩:=T.ex
 exact ⟨cl,⟨f,fd,h1,h3,ok f fd h2⟩⟩
theorem Mb.at {P:Program} {w:World} {K:Frag} {mg:Str->Option Value} {base:Heap} {k:Nat} {C:Addr} {x qual:Str} {st:Stmt} {ps:List Str} {sp:Sp} (T:Mb K C qual st ps) (hm:mg x=some (.ref C)) (ok:∀ f fd,Fun K "__init__" qual st f fd->pM P w K mg base CX0 k f fd ps sp):Ic P w K mg base k x C ps sp:=by
 obtain ⟨f,fd,h1,h2,h3⟩:=T.ex
 exact ⟨⟨f,fd,h1,hm,h3,ok f fd h2⟩⟩
theorem Nw {K:Frag} {mg:Str->Option Value} {x:Str} {q:Addr} {xs:List V} {o:Obj} {its:Array Value} {n:Nat} (hm:mg x=some (.ref q)) (h1:K.lookup q=some o) (h2:o.cls=.type "tuple") (h3:o.data=.seq its n) (h4:its.size<=sizeLine) (h5:Vals xs its.toList):Qk K mg x xs :=
 ⟨q,hm,fun H=>.inr ⟨o,its,n,h1,h2,h3,h4,h5⟩⟩
end
end L3
set_option maxRecDepth 100000
set_option maxHeartbeats 2000000
namespace L3
open PySem PySem.Spec PyProof.Rows L2
theorem Jm {H:Hp} {a b:Addr} {o:HO} (h:upd H a o b=none):H b=none:=by
 by_cases e:b=a
 ·rw [e,aw] at h
  cases h
 ·rw [au e] at h
  exact h
abbrev HY (h:Heap) (z TI TO a:Addr) (f:Bool):Prop :=
 h.get? z=some {cls:=.type "zip",dict:=none,data:=.fields #[rawInt a,.bool f,.bool false,.ref TI,.ref TO],slots:=#[]}
section
variable {prog:Program} {w:World} {A:Around} {E:Value->Shared->Prop} {s:Shared}
theorem Io {z TI TO a:Addr} {f:Bool} {oa:Obj} {Q:Bool->Shared->Prop} (hz:HY s.heap z TI TO a f) (ha:s.heap.get? a=some oa)
 (h:∀ h',HY h' z TI TO a true->Heap.SameBut z s.heap h'->Q false {s with heap:=h' }):wpAny (model prog w) A (Builtin.SmallTypes.ownedTupleIsFree (.ref z)) Q E s:=by
 unfold Builtin.SmallTypes.ownedTupleIsFree
 refine wpAny_bind (wpAny_field hz rfl (x:=rawInt a) rfl ?_)
 show wpAny _ _ (loadIfAlive ((a:Int).toNat) >>= _) _ _ _
 rw [aD]
 refine wpAny_bind (PySem.W.kdx_alive ha ?_)
 simp only [Option.isNone_some,mL,if_false]
 refine wpAny_bind (wpAny_field hz rfl (x:=.bool f) rfl ?_)
 cases f with
 |true =>
  rw [if_neg (show ¬((Value.bool true != Value.bool true)=true) from aV)]
  exact wpAny_pure (h s.heap hz (Heap.SameBut.refl _ _))
 |false =>
  rw [if_pos (show (Value.bool false != Value.bool true)=true from rfl)]
  refine wpAny_bind (wpAny_setField_rec hz (by simp) fun h₃ he₃ hs₃ => ?_)
  exact wpAny_pure (h h₃ he₃ hs₃)
theorem Mh {z TI TO i1 i2 l1 l2 a:Addr} {f:Bool} {oa:Obj} {k:Nat} {xs ys:Array Value} {x y:Value} {Q:Option Value->Shared->Prop} (D:ZipApart z TI TO i1 i2 l1 l2)
 (hz:HY s.heap z TI TO a f) (ha:s.heap.get? a=some oa) (hTI:IsPair s.heap TI (.ref i1) (.ref i2))
 (h1:s.heap.IsListIter i1 l1 k) (h2:s.heap.IsListIter i2 l2 k) (hl1:s.heap.IsList l1 xs) (hl2:s.heap.IsList l2 ys) (hx:xs[k]? = some x) (hy:ys[k]? = some y)
 (hQ:∀ h',HY h' z TI TO a true->h'.IsListIter i1 l1 (k+1)->h'.IsListIter i2 l2 (k+1)->IsPair h' s.heap.objs.size x y->h'.objs.size=s.heap.objs.size+1 ->
   (∀ c o,c≠z->c≠i1->c≠i2->s.heap.get? c=some o->h'.get? c=some o)->Q (some (.ref s.heap.objs.size)) {s with heap:=h' }) :
 wpAny (model prog w) A (pyNext (.ref z)) Q E s:=by
 have hT:s.TypeIs (.ref z) "zip":=⟨_,hz,rfl⟩
 unfold pyNext
 refine wpAny_bind (wpAny_attempt (wpAny_callSpecial?_slot (name:=Str.ofString "__next__") hT F.slot_zip_next
  (wpAny_call_entry F.slot_zip_next hT F.entry_zip_next ?_ (F.args_zip_next_1 _))))
 show wpAny _ _ (field (.ref z) 2 >>= _) _ _ _
 refine wpAny_bind (wpAny_field hz rfl (x:=.bool false) rfl ?_)
 show wpAny _ _ (field (.ref z) 3 >>= _) _ _ _
 refine wpAny_bind (wpAny_field hz rfl (x:=.ref TI) rfl ?_)
 refine wpAny_bind (wpAny_seqItems hTI rfl ?_)
 show wpAny _ _ (Builtin.SmallTypes.ownedTupleIsFree (.ref z) >>= _) _ _ _
 refine wpAny_bind (Io hz ha fun h₁ hz₁ hs₁ => ?_)
 simp only [mL,if_false]
 refine wpAny_bind ?_
 rw [<-Array.forIn_toList]
 simp only [List.forIn_cons,List.forIn_nil]
 refine wpAny_bind (wpAny_bind (wpAny_holding ?_))
 show wpAny _ _ (Builtin.SmallTypes.nextOf (.ref i1) >>= _) _ _ _
 refine wpAny_bind (wpAny_nextOf_list_item (h1.extBut hs₁.extBut D.i1z) (hl1.extBut hs₁.extBut D.l1z) hx fun h₂ h1₂ hs₂ => wpAny_pure ?_)
 refine wpAny_pure ?_
 refine wpAny_bind (wpAny_bind (wpAny_holding ?_))
 show wpAny _ _ (Builtin.SmallTypes.nextOf (.ref i2) >>= _) _ _ _
 refine wpAny_bind (wpAny_nextOf_list_item ((h2.extBut hs₁.extBut D.i2z).extBut hs₂.extBut D.i12.symm)
  ((hl2.extBut hs₁.extBut D.l2z).extBut hs₂.extBut D.l2i1) hy fun h₄ h2₄ hs₄ => wpAny_pure ?_)
 refine wpAny_pure (wpAny_pure ?_)
 refine wpAny_bind (wpAny_newTuple ?_ (by show 2<=sizeLine;decide))
 have hsz:h₄.objs.size=s.heap.objs.size:=by rw [hs₄.1,hs₂.1,hs₁.1]
 have hz₄ : HY h₄ z TI TO a true:=hs₄.extBut _ _ D.i2z.symm (hs₂.extBut _ _ D.i1z.symm hz₁)
 have h1₄ : h₄.IsListIter i1 l1 (k+1):=h1₂.extBut hs₄.extBut D.i12
 refine wpAny_pure ⟨_,rfl,?_⟩
 refine wpAny_pure ?_
 show Q (some (.ref h₄.objs.size)) _
 rw [hsz]
 refine hQ _ (aH _ hz₄) (h1₄.at fun o e=>aH _ e) (h2₄.at fun o e=>aH _ e) ?_ ?_ fun c o c1 c2 c3 e=>aH _ (hs₄.extBut _ _ c3 (hs₂.extBut _ _ c2 (hs₁.extBut _ _ c1 e)))
 ·rw [<-hsz]
  exact bc _ rfl
 ·rw [cR,hsz]
theorem Og {z TI TO i1 i2 l1 l2 a:Addr} {f:Bool} {oa:Obj} {k:Nat} {xs:Array Value} {Q:Option Value->Shared->Prop} (hh:A.handled=none) (D:ZipApart z TI TO i1 i2 l1 l2)
 (hz:HY s.heap z TI TO a f) (ha:s.heap.get? a=some oa) (hTI:IsPair s.heap TI (.ref i1) (.ref i2))
 (h1:s.heap.IsListIter i1 l1 k) (hl1:s.heap.IsList l1 xs) (hx:xs[k]? = none)
 (hQ:∀ h',(∀ c o,c≠z->c≠i1->s.heap.get? c=some o->h'.get? c=some o)->Q none {s with heap:=h' }) :
 wpAny (model prog w) A (pyNext (.ref z)) Q E s:=by
 have hT:s.TypeIs (.ref z) "zip":=⟨_,hz,rfl⟩
 unfold pyNext
 refine wpAny_bind (wpAny_attempt (wpAny_callSpecial?_slot (name:=Str.ofString "__next__") hT F.slot_zip_next
  (wpAny_call_entry F.slot_zip_next hT F.entry_zip_next ?_ (F.args_zip_next_1 _))))
 show wpAny _ _ (field (.ref z) 2 >>= _) _ _ _
 refine wpAny_bind (wpAny_field hz rfl (x:=.bool false) rfl ?_)
 show wpAny _ _ (field (.ref z) 3 >>= _) _ _ _
 refine wpAny_bind (wpAny_field hz rfl (x:=.ref TI) rfl ?_)
 refine wpAny_bind (wpAny_seqItems hTI rfl ?_)
 show wpAny _ _ (Builtin.SmallTypes.ownedTupleIsFree (.ref z) >>= _) _ _ _
 refine wpAny_bind (Io hz ha fun h₁ hz₁ hs₁ => ?_)
 simp only [mL,if_false]
 refine wpAny_bind ?_
 rw [<-Array.forIn_toList]
 simp only [List.forIn_cons,List.forIn_nil]
 refine wpAny_bind (wpAny_bind (wpAny_holding ?_))
 show wpAny _ _ (Builtin.SmallTypes.nextOf (.ref i1) >>= _) _ _ _
 refine wpAny_bind (wpAny_nextOf_list_end hh (h1.extBut hs₁.extBut D.i1z) (hl1.extBut hs₁.extBut D.l1z) hx fun h₂ e hs₂ he => ?_)
 obtain ⟨o,ho,hc⟩:=he
 refine wpAny_bind (wpAny_isInstance (T:="StopIteration") (b:=true) ⟨o,ho,hc⟩ isSubtype_stop ?_)
 exact wpAny_pure (hQ _ fun c o c1 c2 e=>hs₂ _ _ c2 (hs₁.extBut _ _ c1 e))
structure Ca (h:Heap) (z TI TO i1 i2 l1 l2 S:Addr) (i:Nat):Prop where
 ti:IsPair h TI (.ref i1) (.ref i2)
 it1:h.IsListIter i1 l1 i
 it2:h.IsListIter i2 l2 i
 to:∃ p q,IsPair h TO p q
 fl:IsZip h z TI TO .none\/∃ t f ot,HY h z TI TO t f/\h.get? t=some ot/\t≠z/\t≠TO/\t≠i1/\t≠i2/\t≠S
theorem Ca.keep {h h':Heap} {z TI TO i1 i2 l1 l2 S:Addr} {i:Nat} (x:Ca h z TI TO i1 i2 l1 l2 S i) (hk:∀ b o,b≠S->h.get? b=some o->h'.get? b=some o)
 (h1:z≠S) (h2:TI≠S) (h3:TO≠S) (h4:i1≠S) (h5:i2≠S):Ca h' z TI TO i1 i2 l1 l2 S i:=by
 obtain ⟨p,q,ht⟩:=x.to
 refine ⟨hk _ _ h2 x.ti,x.it1.at fun o e=>hk _ o h4 e,x.it2.at fun o e=>hk _ o h5 e,⟨p,q,hk _ _ h3 ht⟩,?_⟩
 rcases x.fl with hz|⟨t,f,ot,hz,ht,e1,e2,e3,e4,e5⟩
 ·exact .inl (hk _ _ h1 hz)
 ·exact .inr ⟨t,f,ot,hk _ _ h1 hz,hk _ _ e5 ht,e1,e2,e3,e4,e5⟩
theorem Mj {z TI TO i1 i2 l1 l2 S:Addr} {i:Nat} {xs ys:Array Value} {x y:Value} {Q:Option Value->Shared->Prop} (D:ZipApart z TI TO i1 i2 l1 l2) (st:Ca s.heap z TI TO i1 i2 l1 l2 S i) (hS:S<s.heap.objs.size)
 (hl1:s.heap.IsList l1 xs) (hl2:s.heap.IsList l2 ys) (hx:xs[i]? = some x) (hy:ys[i]? = some y)
 (hQ:∀ h',Ca h' z TI TO i1 i2 l1 l2 S (i+1)->IsPair h' s.heap.objs.size x y ->
   (∀ c o,c≠z->c≠TO->c≠i1->c≠i2->s.heap.get? c=some o->h'.get? c=some o)->Q (some (.ref s.heap.objs.size)) {s with heap:=h' }) :
 wpAny (model prog w) A (pyNext (.ref z)) Q E s:=by
 obtain ⟨ti,it1,it2,⟨p,q,hto⟩,fl⟩:=st
 have l1:i1<s.heap.objs.size:=by obtain ⟨_,e,_⟩:=it1;exact aI e
 have l2:i2<s.heap.objs.size:=by obtain ⟨_,e,_⟩:=it2;exact aI e
 rcases fl with hz|⟨t,f,ot,hz,ht,e1,e2,e3,e4,e5⟩
 ·refine wpAny_pyNext_zip_item D hz ti hto it1 it2 hl1 hl2 hx hy fun h' a1 a2 a3 a4 a5 a6 hk=>hQ h' ⟨hk _ _ D.TIz D.TITO D.TIi1 D.TIi2 ti,a3,a4,⟨_,_,a2⟩,.inr ⟨_,false,_,a1,a5,gG (aI hz),gG (aI hto),gG l1,gG l2,gG hS⟩⟩ a5 hk
 ·exact Mh D hz ht ti it1 it2 hl1 hl2 hx hy fun h' a1 a3 a4 a5 a6 hk=>hQ h' ⟨hk _ _ D.TIz D.TIi1 D.TIi2 ti,a3,a4,⟨p,q,hk _ _ D.TOz D.TOi1 D.TOi2 hto⟩,.inr ⟨t,true,ot,a1,hk _ _ e1 e3 e4 ht,e1,e2,e3,e4,e5⟩⟩ a5 fun c o c1 _ c3 c4 e=>hk c o c1 c3 c4 e
theorem Mm {z TI TO i1 i2 l1 l2 S:Addr} {i:Nat} {xs ys:Array Value} {Q:Option Value->Shared->Prop} (hh:A.handled=none) (D:ZipApart z TI TO i1 i2 l1 l2) (st:Ca s.heap z TI TO i1 i2 l1 l2 S i)
 (hl1:s.heap.IsList l1 xs) (hl2:s.heap.IsList l2 ys) (hx:xs[i]? = none)
 (hQ:∀ h',(∀ c o,c≠z->c≠TO->c≠i1->c≠i2->s.heap.get? c=some o->h'.get? c=some o)->Q none {s with heap:=h' }) :
 wpAny (model prog w) A (pyNext (.ref z)) Q E s:=by
 obtain ⟨ti,it1,it2,⟨p,q,hto⟩,fl⟩:=st
 rcases fl with hz|⟨t,f,ot,hz,ht,e1,e2,e3,e4,e5⟩
 ·exact wpAny_pyNext_zip_end hh D hz ti hto it1 it2 hl1 hl2 (.inl hx) hQ
 ·exact Og hh D hz ht ti it1 hl1 hx fun h' hk=>hQ h' fun c o c1 _ c3 _ e=>hk c o c1 c3 e
theorem Ko:typeLookup (.type "zip") "__len__"=pure none:=by rw [typeLookup_type,builtinLookup_eq_fast];kernel_rfl
theorem Jj:typeLookup (.type "zip") "__length_hint__"=pure none:=by rw [typeLookup_type,builtinLookup_eq_fast];kernel_rfl
theorem Ml {z:Addr} (hT:s.TypeIs (.ref z) "zip") {Q:Bool->Shared->Prop} (h:Q true s):wpAny (model prog w) A (Builtin.List.listLengthHint (.ref z)) Q E s:=by
 unfold Builtin.List.listLengthHint
 refine wpAny_bind (wpAny_specialOf hT Ko ?_)
 wp_delta
 refine wpAny_ite_split (fun hab=>absurd hab (by decide)) (fun _ => ?_)
 refine wpAny_ite_split (fun hab=>absurd hab (by decide)) (fun _ => ?_)
 refine wpAny_bind (wpAny_specialOf hT Jj ?_)
 exact wpAny_pure h
end
section
variable {X:Cx} {pins:List (Addr×Obj)} {σ : L2.St} {A:Around}
theorem Mi {z TI TO i1 i2 a b S:Addr} {xs ys:List V} {H1:Hp} {R:Result->Shared->Prop} (hh:A.handled=none) (D:ZipApart z TI TO i1 i2 a b) (n1:z≠S) (n2:TI≠S) (n3:TO≠S) (n4:i1≠S) (n5:i2≠S)
 (hS1:H1 S=none) (hqx:SqL X.K H1 a xs) (hqy:SqL X.K H1 b ys) (hl:xs.length=ys.length) (hz:xs.length<sizeLine) (res:Value)
 (hR:∀ (H2:Hp) (s2:Shared) (ts:List Addr),Inv X pins σ H2 s2->(∀ c o,H1 c=some o->H2 c=some o)->H2 S=some (.lst (ts.map V.ref))->ts.length=xs.length->(∀ t,t∈ts->H1 t=none) ->
   (∀ (j:Nat) t,ts[j]? = some t->∃ x y,xs[j]? = some x/\ys[j]? = some y/\H2 t=some (.tup [x,y]))->R (.ok (.ret res)) s2) :
 ∀ (k i:Nat) (s:Shared) (H:Hp) (ts:List Addr),xs.length-i=k->i<=xs.length->Inv X pins σ H s->(∀ c o,H1 c=some o->H c=some o)->H S=some (.lst (ts.map V.ref))->ts.length=i->(∀ t,t∈ts->H1 t=none) ->
  (∀ (j:Nat) t,ts[j]? = some t->∃ x y,xs[j]? = some x/\ys[j]? = some y/\H t=some (.tup [x,y]))->(∀ c,c ∈ [z,TI,TO,i1,i2]->ue X pins H c)->Ca s.heap z TI TO i1 i2 a b S i ->
  codeAny (model X.prog X.w) A (.builtin "list.extend.loop" ⟨[.ref S,.ref z,res],[]⟩) R s:=by
 intro k
 induction k with
 |zero =>
  intro i s H ts hk hi I kp hS hts hfr hG hf st
  have hin:i=xs.length:=by omega
  obtain ⟨its,rv,p,_⟩:=I.list (bf.seq kp hqx)
  obtain ⟨rP,rv2,p2,_⟩:=I.list (bf.seq kp hqy)
  have l1:=rv.length
  refine codeAny_builtin PySem.F.entry_extend_loop ?_
  rw [Around.under_plainId PySem.F.plain_extend_loop _]
  show wpAny _ A.in1 (pyNext (.ref z) >>= _) _ _ _
  refine wpAny_bind (Mm (A:=A.in1) hh D st p.isList p2.isList (by simp;omega) fun h' hk' => ?_)
  refine wpAny_pure (hR H _ ts (I.My (t':=s.toks) (ch:=[z,TI,TO,i1,i2]) (fun c o hb q =>
   hk' c o (fun q'=>hb (by simp [q'])) (fun q'=>hb (by simp [q'])) (fun q'=>hb (by simp [q'])) (fun q'=>hb (by simp [q'])) q) hf) kp hS (by omega) hfr hG)
 |succ k ih =>
  intro i s H ts hk hi I kp hS hts hfr hG hf st
  have hlt:i<xs.length:=by omega
  obtain ⟨x,hx⟩:∃ x,xs[i]? = some x:=⟨xs[i],aC hlt⟩
  obtain ⟨y,hy⟩:∃ y,ys[i]? = some y:=⟨ys[i]'(by omega),aC (by omega)⟩
  obtain ⟨its,rv,p,_⟩:=I.list (bf.seq kp hqx)
  obtain ⟨rP,rv2,p2,_⟩:=I.list (bf.seq kp hqy)
  obtain ⟨u,hu,ru⟩:=rv.get hx
  obtain ⟨u2,hu2,ru2⟩:=rv2.get hy
  obtain ⟨_,_,_,_,_,eS⟩:=I.xZ hS
  have hSl:S<s.heap.objs.size:=aI eS
  refine codeAny_builtin PySem.F.entry_extend_loop ?_
  rw [Around.under_plainId PySem.F.plain_extend_loop _]
  show wpAny _ A.in1 (pyNext (.ref z) >>= _) _ _ _
  refine wpAny_bind (Mj D st hSl p.isList p2.isList (x:=u) (y:=u2) (by simpa using hu) (by simpa using hu2) fun h' st' hT hk' => ?_)
  have new:fB X.prog X.w (upd H s.heap.objs.size (.tup [x,y])) h' s.heap.objs.size (.tup [x,y]) :=
   ⟨by show 2<=sizeLine;decide,[u,u2],.cons ru (.cons ru2 .nil),⟨_,hT,rfl,_,rfl⟩⟩
  have Hw:H s.heap.objs.size=none:=I.hok.fresh (ay _)
  have I1:Inv X pins σ (upd H s.heap.objs.size (.tup [x,y])) {s with heap:=h' } :=
   I.vH (t':=s.toks) (ch:=[z,TI,TO,i1,i2]) (fun c o hb q=>hk' c o (fun q'=>hb (by simp [q'])) (fun q'=>hb (by simp [q'])) (fun q'=>hb (by simp [q'])) (fun q'=>hb (by simp [q'])) q) hf (ay _) new
  have Ru:S≠s.heap.objs.size:=bD hSl
  have hS':upd H s.heap.objs.size (.tup [x,y]) S=some (.lst (ts.map V.ref)):=by rw [au Ru];exact hS
  obtain ⟨zz,lits,n,r,hlen,e⟩:=I1.xZ hS'
  have up:∀ c o,c≠S->h'.get? c=some o->(h'.update S (Obj.mapSeq (·.push (Value.ref s.heap.objs.size)))).get? c=some o:=fun c o hc e=>(je _ _ (Ne.symm hc)).trans e
  have Ub:lits.length=i:=by rw [<-hlen,ab,hts]
  show wpAny _ A.in1 (updateSeq S (·.push (Value.ref s.heap.objs.size)) >>= _) _ _ _
  refine wpAny_bind ?_
  refine wpAny_updateSeq e rfl (wpAny_pure ⟨plainId_quiet PySem.F.plain_extend_loop _,?_⟩) (by rw [aL];omega) (by show (lits.toArray.push (Value.ref s.heap.objs.size)).size<=sizeLine+1;rw [Array.size_push,aL];omega)
  have I2:=I1.Hj (t':=s.toks) (its':=lits++[Value.ref s.heap.objs.size]) (ys:=ts.map V.ref++[V.ref s.heap.objs.size]) (f:=(·.push (Value.ref s.heap.objs.size))) hS' e (by simp) (r.append (.cons rfl .nil)) (by rw [aG,ab,cg];omega)
  have Oc:∀ c o,H c=some o->c≠S->upd (upd H s.heap.objs.size (.tup [x,y])) S (.lst (ts.map V.ref++[V.ref s.heap.objs.size])) c=some o:=fun c o hc hcs=>by
   rw [au hcs,au (fun q=>by rw [q,Hw] at hc;cases hc)]
   exact hc
  refine ih (i+1) _ _ (ts++[s.heap.objs.size]) (by omega) hlt I2 (fun c o hc=>Oc c o (kp c o hc) (fun q=>by rw [q,hS1] at hc;cases hc)) (by rw [aw,bt];rfl) (by rw [aG,hts];rfl) ?_ ?_ ?_ (st'.keep up n1 n2 n3 n4 n5)
  ·intro t ht
   rcases aQ.mp ht with ht|ht
   ·exact hfr t ht
   ·rw [aO.mp ht]
    cases q:H1 s.heap.objs.size with
    |none=>rfl
    |some o=>have:=kp _ _ q;rw [Hw] at this;cases this
  ·intro j t hj
   rcases vE j ts.length with h1|h1|h1
   ·rw [List.getElem?_append_left h1] at hj
    obtain ⟨x',y',e1,e2,e3⟩:=hG j t hj
    exact ⟨x',y',e1,e2,Oc t _ e3 (fun q=>by rw [q,hS] at e3;cases e3)⟩
   ·subst h1
    have hb:s.heap.objs.size=t:=by simpa using hj
    subst hb
    exact ⟨x,y,by rw [hts];exact hx,by rw [hts];exact hy,by rw [au (Ne.symm Ru),aw]⟩
   ·have Rt:(ts++[s.heap.objs.size])[j]? = none:=eR (by rw [aG,cg];omega)
    rw [Rt] at hj;cases hj
  ·intro c hc
   obtain ⟨f1,f2⟩:=hf c hc
   have e':c=z\/c=TI\/c=TO\/c=i1\/c=i2:=by simpa using hc
   have hcS:c≠S:=by rcases e' with q|q|q|q|q<;>(rw [q];assumption)
   have hlt:c<s.heap.objs.size:=by
    obtain ⟨ti,it1,it2,⟨p,q,hto⟩,fl⟩:=st
    have lz:z<s.heap.objs.size:=by rcases fl with q|⟨_,_,_,q,_⟩<;>exact aI q
    rcases e' with q|q|q|q|q
    ·rw [q];exact lz
    ·rw [q];exact aI ti
    ·rw [q];exact aI hto
    ·rw [q];obtain ⟨_,e1,_⟩:=it1;exact aI e1
    ·rw [q];obtain ⟨_,e2,_⟩:=it2;exact aI e2
   exact ⟨by rw [au hcS,au (bD hlt)];exact f1,f2⟩
theorem Jk {z TI TO i1 i2 a b S:Addr} {xs ys:List V} {H:Hp} {s:Shared} {R:Result->Shared->Prop} (hh:A.handled=none) (D:ZipApart z TI TO i1 i2 a b) (n1:z≠S) (n2:TI≠S) (n3:TO≠S) (n4:i1≠S) (n5:i2≠S) (na:a≠S) (nb:b≠S)
 (I:Inv X pins σ H s) (hS:H S=some (.lst [])) (hqx:SqL X.K H a xs) (hqy:SqL X.K H b ys) (hl:xs.length=ys.length) (hz:xs.length<sizeLine) (res:Value)
 (hf:∀ c,c ∈ [z,TI,TO,i1,i2]->ue X pins H c) (st:Ca s.heap z TI TO i1 i2 a b S 0)
 (hR:∀ (H2:Hp) (s2:Shared) (ts:List Addr),Inv X pins σ H2 s2->(∀ c o,c≠S->H c=some o->H2 c=some o)->H2 S=some (.lst (ts.map V.ref))->ts.length=xs.length->(∀ t,t∈ts->H t=none\/t=S) ->
   (∀ (j:Nat) t,ts[j]? = some t->∃ x y,xs[j]? = some x/\ys[j]? = some y/\H2 t=some (.tup [x,y]))->R (.ok (.ret res)) s2) :
 wpAny (model X.prog X.w) A.in1 (Builtin.List.listExtendWith (.ref S) (.ref z) res)
  (fun fin s'=>match fin with | .done f=>R (.ok f) s' | .again c'=>c'.quiet=true/\codeAny (model X.prog X.w) A c' R s') (fun e s'=>R (.error e) s') s:=by
 have hzT:s.TypeIs (.ref z) "zip":=by rcases st.fl with q|⟨_,_,_,q,_⟩<;>exact ⟨_,q,rfl⟩
 obtain ⟨_,lits,n,r,hlen,e⟩:=I.xZ hS
 have el:lits=[]:=iy.mp hlen.symm
 subst el
 let H1:Hp:=fun c=>if c=S then none else H c
 have hH1:∀ c o,H1 c=some o->c≠S/\H c=some o:=fun c o q=>by
  by_cases hc:c=S
  ·simp [H1,hc] at q
  ·simp only [H1,if_neg hc] at q;exact ⟨hc,q⟩
 have sq1:∀ c zs,c≠S->SqL X.K H c zs->SqL X.K H1 c zs:=fun c zs hc q=>by
  rcases q with (q|⟨d,q⟩)|q
  ·exact .inl (.inl (by simp only [H1,if_neg hc];exact q))
  ·exact .inl (.inr ⟨d,by simp only [H1,if_neg hc];exact q⟩)
  ·exact .inr q
 have key:∀ (s':Shared),Inv X pins σ H s'->Ca s'.heap z TI TO i1 i2 a b S 0->codeAny (model X.prog X.w) A (.builtin "list.extend.loop" ⟨[.ref S,.ref z,res],[]⟩) R s':=fun s' I' st'=>by
  refine Mi (H1:=H1) (xs:=xs) (ys:=ys) hh D n1 n2 n3 n4 n5 (by simp [H1]) (sq1 a xs na hqx) (sq1 b ys nb hqy) hl hz res (fun H2 s2 ts i2 kp h2 h3 h4 h5=>hR H2 s2 ts i2 (fun c o hc q=>kp c o (by simp only [H1,if_neg hc];exact q)) h2 h3 (fun t ht => ?_) h5)
   xs.length 0 s' H [] (Nat.sub_zero _) (aT _) I' (fun c o q=>(hH1 c o q).2) hS rfl (fun t ht=>nomatch ht) (fun j t hj=>by simp at hj) hf st'
  by_cases hc:t=S
  ·exact .inr hc
  ·have:=h4 t ht
   simp only [H1,if_neg hc] at this
   exact .inl this
 unfold Builtin.List.listExtendWith
 refine wpAny_bind (wpAny_typeOf (T:="zip") hzT ?_)
 have h1:Builtin.List.listSameRef (.ref S) (.ref z)=false:=by simp [Builtin.List.listSameRef,Ne.symm n1]
 have h2:(Value.type "zip"==Value.type "list")=false:=by decide
 have h3:(Value.type "zip"==Value.type "tuple")=false:=by decide
 simp only [h1,h2,h3,Bool.or_false,mL,if_false]
 refine wpAny_bind ?_
 have hit:wpAny (model X.prog X.w) A.in1 (pyIter (.ref z)) (fun v s'=>v=.ref z/\s'=s) (fun e s'=>R (.error e) s') s:=by
  rcases st.fl with q|⟨_,_,_,q,_⟩
  ·exact wpAny_pyIter_zip q ⟨rfl,rfl⟩
  ·have hT:s.TypeIs (.ref z) "zip":=⟨_,q,rfl⟩
   refine wpAny_pyIter_slot hT F.slot_zip_iter (wpAny_call_entry F.slot_zip_iter hT F.entry_zip_iter ?_ (F.args_zip_iter_1 _))
   show wpAny _ _ (ret (.ref z)) _ _ s
   exact wpAny_pure ⟨_,rfl,"zip",_,hT,F.slot_zip_next.lookup,rfl,rfl⟩
 refine wpAny_mono hit (fun v s' hv => ?_) fun _ _ x=>x
 obtain ⟨rfl,rfl⟩:=hv
 refine wpAny_bind (wpAny_holding (Ml hzT ?_))
 simp only [Bool.true_or,if_true]
 refine wpAny_bind (wpAny_rule ?_)
 refine wpAny_bind ?_
 show wpAny _ _ (updateSeq S (·.push .none) >>= fun _=>updateSeq S (·.pop)) _ _ _
 refine wpAny_bind (wpAny_updateSeq e rfl ?_)
 have hS₂ := Heap.get?_update_self (Obj.mapSeq (·.push Value.none)) e rfl
 refine wpAny_updateSeq (hz:=by seq_fits) hS₂ rfl ?_
 have hS₃ := Heap.get?_update_self (Obj.mapSeq (·.pop)) hS₂ rfl
 have oth:∀ c o,c≠S->s'.heap.get? c=some o->((s'.heap.update S (Obj.mapSeq (·.push Value.none))).update S (Obj.mapSeq (·.pop))).get? c=some o:=fun c o hc q =>
  (je _ _ (Ne.symm hc)).trans ((je _ _ (Ne.symm hc)).trans q)
 refine wpAny_pure ⟨plainId_quiet PySem.F.plain_extend_loop _,key _ ?_ (st.keep oth n1 n2 n3 n4 n5)⟩
 have I2:=I.write (t':=s'.toks) (x:=S) (e:=S) (o:=.lst []) (by rw [hS];exact trivial) (.inl rfl) (fun c u hc hu=>oth c u hc hu) ⟨_,hS₃⟩ ⟨aT _,[],_,.nil,hS₃⟩
 have eH:upd H S (.lst [])=H:=by
  funext c
  by_cases hc:c=S
  ·rw [hc,aw,hS]
  ·rw [au hc]
 rw [eH] at I2
 exact I2
theorem Mn {z TI TO i1 i2 a b:Addr} {xs ys:List V} {H:Hp} {s:Shared} {Q:VK} {E:Value->Shared->Prop} (hh:A.handled=none) (D:ZipApart z TI TO i1 i2 a b)
 (I:Inv X pins σ H s) (hqx:SqL X.K H a xs) (hqy:SqL X.K H b ys) (hl:xs.length=ys.length) (hz:xs.length<sizeLine)
 (hf:∀ c,c ∈ [z,TI,TO,i1,i2]->ue X pins H c) (st:∀ S,s.heap.objs.size<=S->Ca s.heap z TI TO i1 i2 a b S 0) (la:a<s.heap.objs.size) (lb:b<s.heap.objs.size) (lz:∀ c,c ∈ [z,TI,TO,i1,i2]->c<s.heap.objs.size)
 (hQ:∀ (H2:Hp) (S:Addr) (ts:List Addr),(∀ c o,H c=some o->H2 c=some o)->H S=none->H2 S=some (.lst (ts.map V.ref))->ts.length=xs.length->(∀ t,t∈ts->H t=none) ->
   (∀ (j:Nat) t,ts[j]? = some t->∃ x y,xs[j]? = some x/\ys[j]? = some y/\H2 t=some (.tup [x,y]))->Q (.ref S) H2) :
 wpAny (model X.prog X.w) A (call (.type "list") [.ref z]) (EP X pins σ Q) E s:=by
 refine callType_codes (Q₁ := fun obj s₁ => obj=.ref s.heap.objs.size/\s₁ = {s with heap:=s.heap.push {cls:=.type "list",data:=.seq #[]} }) PySem.F.called_list (PySem.F.typeCall_list_1 _) PySem.F.entry_list_init
  (code_list_new _ ⟨rfl,rfl⟩) fun obj s₁ h₁ => ?_
 obtain ⟨rfl,rfl⟩:=h₁
 have hS:(s.heap.push {cls:=.type "list",data:=.seq #[]}).get? s.heap.objs.size=some {cls:=.type "list",data:=.seq #[]}:=bc _ rfl
 refine ⟨⟨_,hS,rfl⟩,PySem.F.args_list_init_2 _ _,?_⟩
 show wpAny _ _ (do let old <-Builtin.List.listItems (.ref s.heap.objs.size);Builtin.List.listUpdate (.ref s.heap.objs.size) (fun _ => #[]);letGo old.toList.reverse;Builtin.List.listExtendWith (.ref s.heap.objs.size) (.ref z) .none) _ _ _
 refine wpAny_bind ?_
 unfold Builtin.List.listItems
 refine wpAny_bind (wpAny_seqItems hS rfl (wpAny_pure ?_))
 show wpAny _ _ (updateSeq s.heap.objs.size (fun _ => #[]) >>= fun _=>letGo (#[]:Array Value).toList.reverse >>= fun _=>Builtin.List.listExtendWith (.ref s.heap.objs.size) (.ref z) .none) _ _ _
 refine wpAny_bind (wpAny_updateSeq hS rfl ?_)
 have hS₂ := Heap.get?_update_self (Obj.mapSeq (fun _=>(#[]:Array Value))) hS rfl
 have oth:∀ c o,c<s.heap.objs.size->s.heap.get? c=some o->((s.heap.push {cls:=.type "list",data:=.seq #[]}).update s.heap.objs.size (Obj.mapSeq (fun _=>(#[]:Array Value)))).get? c=some o :=
  fun c o hb e=>(je _ _ (gG hb)).trans (aH _ e)
 refine wpAny_bind (wpAny_letGo ?_)
 have Hw:H s.heap.objs.size=none:=I.hok.fresh (ay _)
 have I1:=I.laid (t':=s.toks) (a:=s.heap.objs.size) (o:=.lst []) (fun c o q=>oth c o (aI q) q) (ay _) ⟨aT _,[],_,.nil,hS₂⟩
 have ne:∀ c,c ∈ [z,TI,TO,i1,i2]->c≠s.heap.objs.size:=fun c hc=>bD (lz c hc)
 have kp:∀ c o,H c=some o->upd H s.heap.objs.size (.lst []) c=some o:=fun c o q=>by rw [au (fun w'=>by rw [w',Hw] at q;cases q)];exact q
 refine Jk (A:=A.in1) (S:=s.heap.objs.size) hh D (ne z (by simp)) (ne TI (by simp)) (ne TO (by simp)) (ne i1 (by simp)) (ne i2 (by simp)) (bD la) (bD lb) I1 aw (bf.seq kp hqx) (bf.seq kp hqy) hl hz .none
  (fun c hc=>⟨by rw [au (ne c hc)];exact (hf c hc).1,(hf c hc).2⟩) ?_ fun H2 s2 ts I2 k2 h2 h3 h4 h5=>⟨rfl,.ref s.heap.objs.size,H2,I2,rfl,hQ H2 _ ts (fun c o q=>k2 c o (fun w'=>by rw [w',Hw] at q;cases q) (kp c o q)) Hw h2 h3 (fun t ht => ?_) h5⟩
 ·have st0:=st s.heap.objs.size (ay _)
  obtain ⟨ti,it1,it2,⟨p,q,hto⟩,fl⟩:=st0
  refine ⟨oth _ _ (aI ti) ti,it1.at fun o e=>oth _ o (aI e) e,it2.at fun o e=>oth _ o (aI e) e,⟨p,q,oth _ _ (aI hto) hto⟩,?_⟩
  rcases fl with hz|⟨t,f,ot,hz,ht,e⟩
  ·exact .inl (oth _ _ (aI hz) hz)
  ·exact .inr ⟨t,f,ot,oth _ _ (aI hz) hz,oth _ _ (aI ht) ht,e⟩
 ·rcases h4 t ht with q|q
  ·exact Jm q
  ·rw [q];exact Hw
def KC (K:Frag) (ta:TA):TE:=fun σ H Q=>ta σ H fun vs H1=>∃ a b xs ys,vs=[.ref a,.ref b]/\SqL K H1 a xs/\SqL K H1 b ys/\xs.length=ys.length/\xs.length<sizeLine /\
 ∀ (H2:Hp) (S:Addr) (ts:List Addr),(∀ c o,H1 c=some o->H2 c=some o)->H1 S=none->H2 S=some (.lst (ts.map V.ref))->ts.length=xs.length->(∀ t,t∈ts->H1 t=none) ->
  (∀ (j:Nat) t,ts[j]? = some t->∃ x y,xs[j]? = some x/\ys[j]? = some y/\H2 t=some (.tup [x,y]))->Q (.ref S) H2
theorem MP {e e2:Expr} {ta:TA} {p p2 pos K1:Pos} (RC:X.calm=true) (hg:Gl X "list") (hm:X.mg "list"=none) (hg2:Gl X "zip") (hm2:X.mg "zip"=none) (ha:PA X [e,e2] ta)
 (hs:starEach [Expr.Call (.Name "zip" p2) [e,e2] [] K1] X.env=(false,eval (.Call (.Name "zip" p2) [e,e2] [] K1) X.env)::starEach [] X.env:=by rfl)
 (hs2:starEach [e,e2] X.env=(false,eval e X.env)::starEach [e2] X.env:=by rfl) (hpl:(backTo K1 (starEach [e2] X.env)).any (·.1)=false:=by rfl) :
 PE X (.Call (.Name "list" p) [.Call (.Name "zip" p2) [e,e2] [] K1] [] pos) (KC X.K ta):=by
 intro pins s σ H Q I h
 refine wpAny_Call_Name_kw (qC I hg hm HS (PyProof.Rows.callWith_type1 ?_ hs rfl) (by decide) (by decide))
 rw [hs]
 refine Calls.spliced_cons ?_
 refine Call_ (qC I hg2 hm2 Ki (PyProof.Rows.callWith_type1 (thn (ha K1 pins s σ H _ I h) fun us s1 ⟨vs,H1,I1,r1,q1⟩ => ?_) hs2 hpl))
 obtain ⟨a,b,xs,ys,ex,hqx,hqy,hl,hz,q⟩:=q1
 subst ex
 obtain ⟨u1,u2,rfl,r,r'⟩:=vals2 r1
 cases r
 cases r'
 obtain ⟨its,rv,p1,_⟩:=I1.list hqx
 obtain ⟨rP,rv2,p2',_⟩:=I1.list hqy
 have la:a<s1.heap.objs.size:=p1.lt
 have lb:b<s1.heap.objs.size:=p2'.lt
 refine call_zip_2 p1.isList p2'.isList fun h' hz' hTI hTO h1 h2 hsz hk=>Calls.spliced_nil ?_
 have I2:Inv X pins σ H1 {s1 with heap:=h' }:=I1.kept (t':=s1.toks) hk
 refine Mn (I.ok.hd RC) (PySem.W.ktu_apart s1.heap.objs.size a b la lb) I2 hqx hqy hl hz (fun c hcm => ?_) (fun S hS=>⟨hTI,h1,h2,⟨_,_,hTO⟩,.inl hz'⟩) (bh la (by show s1.heap.objs.size<=h'.objs.size;rw [hsz];exact iq _ _)) (bh lb (by show s1.heap.objs.size<=h'.objs.size;rw [hsz];exact iq _ _)) (fun c hcm => ?_) q
 ·have e':c=s1.heap.objs.size+4\/c=s1.heap.objs.size+2\/c=s1.heap.objs.size+3\/c=s1.heap.objs.size\/c=s1.heap.objs.size+1:=by simpa using hcm
  have hle:s1.heap.objs.size<=c:=by
   rcases e' with z|z|z|z|z
   ·rw [z];exact iq _ _
   ·rw [z];exact iq _ _
   ·rw [z];exact iq _ _
   ·rw [z];exact ay _
   ·rw [z];exact iq _ _
  exact I1.J9 hle (I1.hok.fresh hle)
 ·have e':c=s1.heap.objs.size+4\/c=s1.heap.objs.size+2\/c=s1.heap.objs.size+3\/c=s1.heap.objs.size\/c=s1.heap.objs.size+1:=by simpa using hcm
  show c<h'.objs.size
  rw [hsz]
  rcases e' with z|z|z|z|z
  ·rw [z];exact rq (by decide) _
  ·rw [z];exact rq (by decide) _
  ·rw [z];exact rq (by decide) _
  ·rw [z];exact Nat.lt_add_of_pos_right (by decide)
  ·rw [z];exact rq (by decide) _
end
end L3
set_option maxRecDepth 100000
set_option maxHeartbeats 2000000
namespace L3
open PySem PySem.Spec PyProof.Rows L2
section
variable {X:Cx} {x m:Str} {p pos apos:Pos} {a b c d e o:Expr} {es:List Expr} {ta tb tc td:TE} {t:TA} {k:Nat} {C:Addr} {ps:List Str} {sp:Sp}
def yG:V->List V->Hp->VK->Prop:=fun x vs H Q=>∃ i,x=.int i/\vs=[]/\Q (.int (Builtin.Int.intBits i)) H
theorem CO:MtR X "int.bit_length" yG:=by
 intro pins s σ H x vs v us Q I rx rv h
 obtain ⟨i,rfl,rfl,q⟩:=h
 obtain ⟨tk,rfl⟩:=rx
 have hus:=rv.zero
 subst hus
 exact call_int_bit_length ⟨.int _,H,I.tok _,⟨_,rfl⟩,q⟩
def uJ:V->List V->Hp->VK->Prop:=fun x vs H Q=>∃ (a:Addr) (kvs:List (Key×V)) (n:Int) (y:V),x=.ref a/\vs=[.int n,y]/\H a=some (.dK kvs)/\kvs.length<sizeLine /\
 (∀ v,b0 kvs (Sum.inl n)=some v->Q v H)/\(b0 kvs (Sum.inl n)=none->Q y (upd H a (.dK (putK kvs (Sum.inl n) y))))
theorem CM:MtR X "dict.setdefault" uJ:=by
 intro pins s σ H x vs v us Q I rx rv h
 obtain ⟨a,kvs,n,y,rfl,rfl,hH,hz,q1,q2⟩:=h
 cases rx
 obtain ⟨u1,u2,rfl,r1,r2⟩:=vals2 rv
 obtain ⟨z,hd,ws,rel,dd⟩:=IX I.hok hH
 have hln:ws.length<=sizeLine:=by rw [<-rel.length];exact z
 have rk:RelV (kV (Sum.inl n)) u1:=r1
 have hv:=rel.val (Sum.inl n)
 refine call_meetsIn PySem.F.slot_dict_setdefault dd.typeIs PySem.F.entry_dict_setdefault (PySem.F.args_dict_setdefault_3 _ _ _) (kt_meets_setdefault (cY X.prog X.w) a (xB rk) hd u2) ⟨ws,dd,hln,fun v hw => ?_,fun hw h' dd' hs => ?_⟩
 ·cases q:b0 kvs (Sum.inl n) with
  |none=>rw [q,hw] at hv;exact hv.elim
  |some v' =>
   rw [q,hw] at hv
   exact ⟨v',H,I.tok _,hv,q1 v' q⟩
 ·have e:b0 kvs (Sum.inl n)=none:=by
   cases q:b0 kvs (Sum.inl n) with
   |none=>rfl
   |some v'=>rw [q,hw] at hv;exact hv.elim
  have he:∃ q,h'.get? a=some q:=let ⟨q,_,_,hq,_⟩:=dd';⟨q,hq⟩
  have hl:(putK kvs (Sum.inl n) y).length<=sizeLine:=by have:=mX kvs (Sum.inl n:Key) y;omega
  exact ⟨y,_,va I (by rw [hH];exact True.intro) hs he (Ew hl hd (rel.put (Sum.inl n) r2) dd'),r2,q2 e⟩
def uK (K:Frag):V->List V->Hp->VK->Prop:=fun x vs H Q=>∃ l b xs zs,x=.ref l/\vs=[.ref b]/\H l=some (.lst xs)/\SqT K H b zs/\xs.length+zs.length<=sizeLine/\Q .non (upd H l (.lst (xs++zs)))
theorem zL:MtM X "list.extend" (uK X.K):=by
 intro pins s σ H x vs v us Q I rx rv h
 obtain ⟨l,b,xs,zs,rfl,rfl,hH,hB,hz,q⟩:=h
 cases rx
 obtain ⟨u,rfl,ru⟩:=rv.one
 cases ru
 obtain ⟨z,its,n,r,hl,e⟩:=I.xZ hH
 obtain ⟨rP,r2,pl,hz2⟩:=I.tuple hB
 have hl2:=r2.length
 obtain ⟨ob,e2,hc2,n2,hd2⟩:=pl
 have hsz:its.toArray.size+rP.toArray.size<=sizeLine:=by rw [aL,aL];omega
 have LG:¬(!its.toArray.isEmpty&&Builtin.List.listTooLong (its.toArray.size+rP.toArray.size))=true:=by
  rw [FJ hsz,Bool.and_false]
  exact aV
 refine wpAny_call_entry F.slot_list_extend ⟨_,e,rfl⟩ F.entry_list_extend ?_ (F.args_list_extend_2 _ _)
 show wpAny _ _ (Builtin.List.listExtendWith (.ref l) (.ref b) .none) _ _ _
 unfold Builtin.List.listExtendWith
 refine wpAny_bind (wpAny_typeOf (T:="tuple") ⟨ob,e2,hc2⟩ ?_)
 rw [if_pos (by simp)]
 refine wpAny_bind ?_
 unfold Builtin.List.listItems
 refine wpAny_bind (wpAny_seqItems e2 hd2 (wpAny_pure ?_))
 refine wpAny_bind ?_
 refine wpAny_bind (wpAny_seqItems e rfl (wpAny_pure ?_))
 rw [if_neg LG]
 refine wpAny_bind ?_
 refine wpAny_updateSeq e rfl ?_ (by rw [aL];omega) (by show (its.toArray++rP.toArray).size<=sizeLine+1;rw [Array.size_append];omega)
 refine wpAny_pure ⟨_,rfl,.non,_,I.Hj (its':=its++rP) (f:=(· ++ rP.toArray)) hH e (by simp) (r.append r2) ?_,rfl,q⟩
 rw [aG]
 omega
def uf (i j:Int):Prop:=0<=j/\j<=1000/\i.natAbs<2 ^ 100
theorem o4:OpR X (binaryOp .LShift) (rI uf fun i j=>.int (i*2 ^ j.toNat)):=opI fun i j _ _ _ _ _ hc q=>by
 have hb:Builtin.Int.intBits i<=100:=intBits_le hc.2.2
 obtain ⟨h1,h2,_⟩:=hc
 exact lshift_int h1 (by omega) q
theorem FD (G:Ic X.prog X.w X.K X.mg X.base k x C ps sp) (hr:g7 (k+1) X.A) (hg:Gl X x) (ha:PA X (e::es) t) (hdb:(x==("__debug__":Str))=false:=by decide)
 (he:starEach (e::es) X.env=(false,eval e X.env)::starEach es X.env:=by rfl) (hpl:(backTo pos (starEach es X.env)).any (·.1)=false:=by rfl):PE X (.Call (.Name x p) (e::es) [] pos) (sC C sp [] E0 t):=by
 obtain ⟨f,fd,hM,hm,hb,F⟩:=G.ex
 exact MO hM F hr hg hm hb .nil FE ha hdb he hpl
variable {i:Nat} {pos' ji:Pos} {te:TE} {k0:Nat} {f:Expr}
theorem psS (i:Nat) (hN:X.N.Nodup) (he:PE X e te) (hi:X.N[i]? = some x:=by rfl) (hx:Loc X.env.scope x:=by first|exact Or.inl rfl|exact Or.inr rfl) (hs:swapsWith e (some (.Name x pos')) pos.line X.env=pure false:=by rfl) (hf:X.fn x=true\/X.env.scope.names.lookup x=some .local:=by first|exact .inl rfl|exact .inr rfl|assumption):PS X (.Assign [.Name x pos'] e pos) (bQ te (aN i)):=O3 hN hi hx he hs hf
theorem psA {op:Operator} {ti:TIp} (i:Nat) (hN:X.N.Nodup) (he:PE X e te) (ho:PIp X op ti) (hi:X.N[i]? = some x:=by rfl) (hx:Loc X.env.scope x:=by first|exact Or.inl rfl|exact Or.inr rfl) (hf:X.fn x=true\/X.env.scope.names.lookup x=some .local:=by first|exact .inl rfl|exact .inr rfl|assumption):PS X (.AugAssign (.Name x pos') op e pos) (GQ i te ti):=O4 hN hi hx he ho hf
theorem pgN (i:Nat) (hN:X.N.Nodup) (hi:X.N[i]? = some x:=by rfl) (hx:Loc X.env.scope x:=by first|exact Or.inl rfl|exact Or.inr rfl) (hf:X.fn x=true\/X.env.scope.names.lookup x=some .local:=by first|exact .inl rfl|exact .inr rfl|assumption):PG X (.Name x pos) (aN i):=MM hN hi hx hf
theorem jC (B:Bl X.mg) (ha:PA X (e::es) t) (hg:Gl X "len":=by rfl) (he:starEach (e::es) X.env=(false,eval e X.env)::starEach es X.env:=by rfl) (hpl:(backTo pos (starEach es X.env)).any (·.1)=false:=by rfl):PE X (.Call (.Name "len" p) (e::es) [] pos) (tCB (eP X.K) t):=mx EB hg B.len PySem.boot_len ha (by decide) (by decide) he hpl
theorem pCf (hr:g7 k0 X.A) (G:FnAt X.prog X.w X.K X.mg X.base k x ps sp) (ha:PA X (e::es) t) (hk:k<=k0:=by decide) (hg:Gl X x:=by rfl) (hdb:(x==("__debug__":Str))=false:=by decide)
 (he:starEach (e::es) X.env=(false,eval e X.env)::starEach es X.env:=by rfl) (hpl:(backTo pos (starEach es X.env)).any (·.1)=false:=by rfl):PE X (.Call (.Name x p) (e::es) [] pos) (bj sp [] E0 t):=Lc G (hr.mono hk) hg ha hdb he hpl
theorem pGi {v:Int} (hm:∃ tk,X.mg x=some (.int v tk)) (hg:Gl X x:=by rfl) (hd:(x==("__debug__":Str))=false:=by decide):PE X (.Name x pos) (tC (.int v)):=MR hg hm hd
theorem pIl (ha:PE X a ta) (hb:PE X b tb) (hs:EM b:=by exact fun _ _=>rfl):PE X (.Subscript a b pos) (tOp (ez X.K) ta tb):=NZ Nk ha hb hs
theorem pIt (ha:PE X a ta) (hb:PE X b tb) (hs:EM b:=by exact fun _ _=>rfl):PE X (.Subscript a b pos) (tOp (cE X.K) ta tb):=NZ Pl ha hb hs
theorem pDg (hu:X.A.units+1<cLine) (ha:PE X a ta) (hb:PE X b tb) (hs:Qi b:=by exact fun _ _=>rfl):PE X (.Subscript a b pos) (qb ta tb):=MS hu ha hb hs
theorem ptC {op:CmpOp} {r:R2} (ho:OpR X (compareOp op) r) (ha:PE X a ta) (hb:PE X b tb) (hm:behindInMarks op b=false:=by exact fy _):PT X (.Compare a [op] [b] pos) (bH (tOp r ta tb)):=ML ho ha hb hm
theorem pFl (he:PE X e ta) (hb:attributeBase e m X.env (eval e X.env)=eval e X.env:=by rfl):PE X (.Attribute e m pos) (d6 X.K ta m):=O6 he hb
theorem wd (ho:PE X o ta) (ha:PA X (e::es) t) (uY:attributeBase o "append" X.env (eval o X.env)=eval o X.env:=by rfl)
 (Nq:((backTo ji (starEach (e::es) X.env)).all (fun x => !x.1)&&(backToKw ji (keywordEach [] X.env)).all (fun x=>x.1.isSome)
   && decide ((e::es).length+([]:List Keyword).length+(if ([]:List Keyword).isEmpty then 0 else 1)<30))=true:=by rfl)
 (uX:(apos.endLine==ji.line)=true:=by rfl) (hs:starEach (e::es) X.env=(false,eval e X.env)::starEach es X.env:=by rfl) (Hu:(backTo ji (starEach es X.env)).any (·.1)=false:=by rfl) :
 PE X (.Call (.Attribute o "append" apos) (e::es) [] ji) (tBM X.K "list" dR ta t):=pR PySem.F.plainAttrs_list PySem.F.slot_list_append PySem.F.type_list_append JP ho ha uY Nq uX hs Hu
end
end L3
set_option maxRecDepth 100000
set_option maxHeartbeats 4000000
namespace L4
open PySem PySem.Spec PyProof.Rows L2 L3
section
variable {K:Frag} {D:Ends} {σ : L2.St} {H:Hp} {Q:VK} {B:Bool->Hp->Prop} {R:List V->Hp->Prop} {t u:TS} {te ta tb tc td:TE} {tt tu:TT} {tr:TA} {g:TG} {r r' r'':R2}
theorem Qw (h:t {D with nx:=u D} σ H):aM t u D σ H:=h
theorem QS (h:te σ H fun x H1=>g x σ H1 D.nx):bQ te g D σ H:=h
theorem OC (h:te σ H fun _ H1=>D.nx σ H1):dF te D σ H:=h
theorem Qx (h:te σ H D.rt):bw te D σ H:=h
theorem Ot (h:D.nx σ H):bI D σ H:=h
theorem QI (h:tt σ H fun b H1=>if b=true then t D σ H1 else u D σ H1):cK tt t u D σ H:=h
theorem Ms {i:Nat} {v:V} {P:L2.St->Hp->Prop} (h:P (σ.set i (some v)) H):aN i v σ H P:=h
theorem Oz {n:Nat} {s:TGs} {a:Addr} {xs:List V} {P:L2.St->Hp->Prop} (hs:SqT K H a xs) (hn:xs.length=n) (h:s xs σ H P):yg K n s (.ref a) σ H P:=⟨a,xs,rfl,hs,hn,h⟩
theorem Mu {s:TG} {q:TGs} {v:V} {l:List V} {P:L2.St->Hp->Prop} (h:s v σ H fun σ' H'=>q l σ' H' P):gh s q (v::l) σ H P:=⟨v,l,rfl,h⟩
theorem OA {P:L2.St->Hp->Prop} (h:P σ H):yh [] σ H P:=⟨rfl,h⟩
theorem Qs {i:Nat} {v:V} (e : σ[i]? = some (some v)) (h:Q v H):af i σ H Q:=⟨v,e,h⟩
theorem x_c {v:V} (h:Q v H):tC v σ H Q:=h
theorem Sb (h:ta σ H fun x H1=>tb σ H1 fun y H2=>r x y H2 Q):tOp r ta tb σ H Q:=h
theorem RW {q:V->Hp->VK->Prop} (h:ta σ H fun x H1=>q x H1 Q):tUn q ta σ H Q:=h
theorem Sf (h:tt σ H fun c H1=>if c=true then ta σ H1 Q else tb σ H1 Q):tIf tt ta tb σ H Q:=h
theorem OI (h:ta σ H fun x H1=>∃ c,x=.bl c/\if c=true then tb σ H1 Q else Q (.bl false) H1):lq ta tb σ H Q:=h
theorem Qz (h:ta σ H fun x H1=>∃ c,x=.bl c/\if c=true then Q (.bl true) H1 else tb σ H1 Q):DJ ta tb σ H Q:=h
theorem Oi (h:te σ H fun x H'=>∃ k,x=.bl k/\B k H'):bH te σ H B:=h
theorem x_b (h:te σ H fun x H'=>∃ k,x=.bl k/\B k H'):tB te σ H B:=h
theorem QT (h:tt σ H fun c H1=>if c=true then tu σ H1 B else B false H1):vN tt tu σ H B:=h
theorem Sa (h:tt σ H fun c H1=>if c=true then B true H1 else tu σ H1 B):tOr tt tu σ H B:=h
theorem QA (h:tt σ H fun c H1=>B (!c) H1):nB tt σ H B:=h
theorem Sh {c:Bool} {P:Bool->Prop} (h:P c):∃ k,V.bl c=.bl k/\P k:=⟨c,rfl,h⟩
theorem Mw (h:ta σ H fun x H1=>tb σ H1 fun y H2=>r x y H2 fun z H3=>∃ k,z=.bl k/\(if k=true then tc σ H3 fun w' H4=>r' y w' H4 Q else Q (.bl false) H3)):fR r r' ta tb tc σ H Q:=h
theorem Ku (h:ta σ H fun x H1=>tb σ H1 fun y H2=>r x y H2 fun z H3=>∃ k,z=.bl k/\(if k=true then tc σ H3 fun w' H4=>r' y w' H4 fun z' H5=>∃ k',z'=.bl k'/\(if k'=true then td σ H5 fun v' H6=>r'' w' v' H6 Q else Q (.bl false) H5) else Q (.bl false) H3)):oQ r r' r'' ta tb tc td σ H Q:=h
theorem QB (h:R [] H):aF σ H R:=h
theorem OH (h:te σ H fun x H1=>tr σ H1 fun xs H2=>R (x::xs) H2):ag te tr σ H R:=h
theorem QC (h:tr σ H fun xs H1=>xs.length<=sizeLine/\∀ p,H1 p=none->Q (.ref p) (upd H1 p (.lst xs))):cD tr σ H Q:=h
theorem Qt (h:tr σ H fun xs H1=>xs.length<=sizeLine/\∀ p,H1 p=none->Q (.ref p) (upd H1 p (.tup xs))):xR tr σ H Q:=h
theorem Si {q:List V->Hp->VK->Prop} (h:tr σ H fun vs H1=>q vs H1 Q):tCB q tr σ H Q:=h
theorem x_call {sp:Sp} {E:XK} (h:tr σ H fun vs H1=>sp (vs++[]) H1 Q E):bj sp [] E tr σ H Q:=h
theorem QR {i:Nat} {ti:TIp} {x:V} (e : σ[i]? = some (some x)) (h:te σ H fun y H1=>ti x y H1 fun z H2=>D.nx (σ.set i (some z)) H2):GQ i te ti D σ H:=⟨x,e,h⟩
theorem QH {f:Int->Int->Int} {i j:Int} (h:Q (.int (f i j)) H):ipI f (.int i) (.int j) H Q:=⟨i,j,rfl,rfl,h⟩
theorem Qy {f:Int->Int->V} {i j:Int} (h:Q (f i j) H):rI0 f (.int i) (.int j) H Q:=⟨i,j,rfl,rfl,h⟩
theorem yP {f:Int->Int->V} {C:Int->Int->Prop} {i j:Int} (c:C i j) (h:Q (f i j) H):rI C f (.int i) (.int j) H Q:=⟨i,j,rfl,rfl,c,h⟩
theorem RZ {f:Int->V} {i:Int} (h:Q (f i) H):rU f (.int i) H Q:=⟨i,rfl,h⟩
theorem Oo {i j:Int} (h:Q (.bl (decide (i=j))) H):rEq (.int i) (.int j) H Q:=⟨rfl,by
 have e:decide (V.int i=V.int j)=decide (i=j):=decide_eq_decide.mpr ⟨fun q=>V.int.inj q,fun q=>by rw [q]⟩
 rw [e];exact h⟩
theorem Ol {i j:Int} (h:Q (.bl (!decide (i=j))) H):rNe (.int i) (.int j) H Q:=⟨rfl,by
 have e:decide (V.int i=V.int j)=decide (i=j):=decide_eq_decide.mpr ⟨fun q=>V.int.inj q,fun q=>by rw [q]⟩
 rw [e];exact h⟩
theorem Om {i j:Bool} (h:Q (.bl (i != j)) H):rNe (.bl i) (.bl j) H Q:=⟨rfl,by
 have e:(!decide (V.bl i=V.bl j))=(i != j):=by cases i<;>cases j<;>decide
 rw [e];exact h⟩
theorem Ox {a:Addr} {xs:List V} (s:SqL K H a xs) (h:Q (.int xs.length) H):eP K [.ref a] H Q:=⟨a,xs,rfl,.inl s,h⟩
theorem Ow {a:Addr} {xs:List V} (s:SqT K H a xs) (h:Q (.int xs.length) H):eP K [.ref a] H Q:=⟨a,xs,rfl,.inr s,h⟩
theorem QE {a:Addr} {xs:List V} {i:Int} {v:V} (s:SqL K H a xs) (e:atI xs i=some v) (h:Q v H):ez K (.ref a) (.int i) H Q:=⟨a,xs,i,v,rfl,rfl,s,e,h⟩
theorem QD {a:Addr} {xs:List V} {i:Int} {v:V} (s:SqT K H a xs) (e:atI xs i=some v) (h:Q v H):cE K (.ref a) (.int i) H Q:=⟨a,xs,i,v,rfl,rfl,s,e,h⟩
theorem eT {a:Addr} {xs:List V} {y:V} (e:H a=some (.lst xs)) (z:xs.length<sizeLine) (h:Q .non (upd H a (.lst (xs++[y])))):dR (.ref a) [y] H Q:=⟨a,xs,y,rfl,rfl,e,z,h⟩
theorem Sj {q:V->List V->Hp->VK->Prop} (h:te σ H fun x H1=>tyV K "list" x H1/\tr σ H1 fun xs H2=>q x xs H2 Q):tBM K "list" q te tr σ H Q:=h
theorem QO {q:V->List V->Hp->VK->Prop} {a:Addr} {xs:List V} (e:H a=some (.lst xs)) (h:tr σ H fun ys H2=>q (.ref a) ys H2 Q):tyV K "list" (.ref a) H/\tr σ H fun ys H2=>q (.ref a) ys H2 Q :=
 ⟨.inl ⟨rfl,xs,.inl (.inl e)⟩,h⟩
theorem Dg {c A B:Prop} [Decidable c] (hc:c) (h:A):if c then A else B:=by rw [if_pos hc];exact h
theorem Oy {c A B:Prop} [Decidable c] (hc:¬c) (h:B):if c then A else B:=by rw [if_neg hc];exact h
theorem fe {a p:Addr} {xs:List V} {o:HO} (s:SqL K H a xs) (hp:H p=none):SqL K (upd H p o) a xs:=by
 rcases s with (h|⟨q,h⟩)|h
 ·exact .inl (.inl (by rw [au (az h hp)];exact h))
 ·exact .inl (.inr ⟨q,by rw [au (az h hp)];exact h⟩)
 ·exact .inr h
theorem MC {a p:Addr} {xs:List V} {o:HO} (s:SqT K H a xs) (hp:H p=none):SqT K (upd H p o) a xs:=by
 rcases s with (h|⟨q,h⟩)|h
 ·exact .inl (.inl (by rw [au (az h hp)];exact h))
 ·exact .inl (.inr ⟨q,by rw [au (az h hp)];exact h⟩)
 ·exact .inr h
theorem mE {xs:List Int} {i:Nat} {x:Int} (h:xs[i]? = some x):atI (xs.map V.int) (i:Int)=some (.int x):=vt (by rw [a9,h];rfl)
theorem uh {tb:TS} {n:Nat} (W:Nat->L2.St->Hp->Prop) (h0:W n σ H)
 (hs:∀ m σ H (N:L2.St->Hp->Prop),W m σ H->(∀ m' σ' H',m'<m->W m' σ' H'->N σ' H')->(∀ σ' H',N σ' H'->∃ m',m'<m/\W m' σ' H') ->
   tt σ H fun b H1=>if b=true then ∃ N:L2.St->Hp->Prop,(∀ σ' H',N σ' H'->∃ m',m'<m/\W m' σ' H')/\tb {D with nx:=N,ct:=N,bk:=D.nx} σ H1 else D.nx σ H1):sT tt tb D σ H :=
 ⟨W,⟨n,h0⟩,fun m σ H w=>hs m σ H (fun σ' H'=>∃ m',m'<m/\W m' σ' H') w (fun m' _ _ l w'=>⟨m',l,w'⟩) fun _ _ x=>x⟩
theorem QK {wi:TI} {tb:TS} (h:wi σ H fun J H1=>∃ W:Nat->Nat->L2.St->Hp->Prop,(∃ m,W 0 m σ H1)/\∀ i m σ H,W i m σ H ->
 (J.stop i H/\D.nx σ H)\/(J.go i H/\∃ N:L2.St->Hp->Prop,(∀ σ' H',N σ' H'->∃ m',m'<m/\W (i+1) m' σ' H')/\∀ x H',J.yld i H x H'->g x σ H' fun σ2 H2=>tb {D with nx:=N,ct:=N,bk:=D.nx} σ2 H2)):kI wi g tb D σ H:=h
variable {RI:It->Hp->Prop}
theorem Mq (h:te σ H fun x H1=>∃ a,x=.ref a/\(∃ xs,SqL K H1 a xs)/\RI (Itl K a) H1):g9 K te σ H RI:=h
theorem QF {a:Addr} {xs:List V} {P:Addr->Prop} (s:SqL K H a xs) (h:P a):∃ b,V.ref a=.ref b/\(∃ xs,SqL K H b xs)/\P b:=⟨a,rfl,⟨xs,s⟩,h⟩
theorem QJ (h:tr σ H fun vs H1=>∃ (i j c:Int) (n:Nat),vs=[.int i,.int j,.int c]/\RgC i j c n/\RI (Itc i c n) H1):CV tr σ H RI:=h
theorem DT {len:Nat} {c:Nat} (hc:1<=c) (hc2:c<=1000) (hl:len<=sizeLine):RgC 0 (len:Int) (c:Int) ((len+c-1) / c):=by
 have hz:=sizeLine_eq
 have e:Builtin.Range.rangeSize 0 (len:Int) (c:Int)=(((len+c-1) / c:Nat):Int):=by
  rw [rangeSize_pos (by omega) (by omega)]
  have:((len:Int)+c-1)=((len+c-1:Nat):Int):=by omega
  rw [this]
  rfl
 have hq:(len+c-1) / c<=len+c-1:=Nat.div_le_self _ _
 have hq2:(len+c-1) / c*c<=len+c-1:=Nat.div_mul_le_self _ _
 refine ⟨by omega,by omega,?_,e⟩
 unfold Builtin.Range.small
 rw [e]
 generalize (len+c-1) / c=q at hq hq2
 have hqc:(q:Int)*c=((q*c:Nat):Int):=by simp
 simp only [Builtin.Range.rangeFitsLong,aE,jk,decide_eq_true_eq,beq_iff_eq]
 have SO:(c:Int) > 0:=by omega
 refine ⟨by omega,.inr ?_⟩
 rw [if_pos SO]
 simp only [aE,decide_eq_true_eq]
 omega
theorem o7 {J:It} {tb:TS} {n:Nat} (Pv:Nat->L2.St->Hp->Prop) (h0:Pv 0 σ H) (hgo:∀ i σ H,i<n->Pv i σ H->J.go i H) (hst:∀ σ H,Pv n σ H->J.stop n H)
 (hs:∀ i x σ H H',i<n->Pv i σ H->J.yld i H x H'->g x σ H' fun σ2 H2=>tb {D with nx:=Pv (i+1),ct:=Pv (i+1),bk:=D.nx} σ2 H2) (hd:∀ σ H,Pv n σ H->D.nx σ H) :
 ∃ W:Nat->Nat->L2.St->Hp->Prop,(∃ m,W 0 m σ H)/\∀ i m σ H,W i m σ H ->
  (J.stop i H/\D.nx σ H)\/(J.go i H/\∃ N:L2.St->Hp->Prop,(∀ σ' H',N σ' H'->∃ m',m'<m/\W (i+1) m' σ' H')/\∀ x H',J.yld i H x H'->g x σ H' fun σ2 H2=>tb {D with nx:=N,ct:=N,bk:=D.nx} σ2 H2):=by
 refine ⟨fun i m σ H=>m=n-i/\i<=n/\Pv i σ H,⟨n,by simp,aT _,h0⟩,?_⟩
 rintro i m σ H ⟨rfl,hi,p⟩
 by_cases hlt:i<n
 ·exact .inr ⟨hgo i σ H hlt p,Pv (i+1),fun σ' H' p'=>⟨n-(i+1),by omega,rfl,hlt,p'⟩,fun x H' y=>hs i x σ H H' hlt p y⟩
 ·have e:i=n:=by omega
  subst e
  exact .inl ⟨hst σ H p,hd σ H p⟩
theorem Se {wi:TI} {vs:List Nat} (h:wi σ H fun J H1=>∀ D,H1 D=none->∃ W:Nat->Nat->Hp->Prop,(∃ m,W 0 m (upd H1 D (.lst [])))/\∀ i m H,W i m H ->
 (J.stop i H/\Q (.ref D) H)\/(J.go i H/\∃ Nx:Hp->Prop,(∀ H',Nx H'->∃ m',m'<m/\W (i+1) m' H')/\∀ x H',J.yld i H x H'->g x (wipe σ vs) H' fun σ2 H2=>wipe σ2 vs=wipe σ vs/\tt σ2 H2 fun b H3 =>
   if b=true then te σ2 H3 fun y H4=>∃ acc,H4 D=some (.lst acc)/\acc.length<sizeLine/\Nx (upd H4 D (.lst (acc++[y]))) else Nx H3)):tLc wi g tt te vs σ H Q:=h
theorem Ls {J:It} {vs:List Nat} {n:Nat} {D:Addr} {H0:Hp} {Qd:Hp->Prop} (Pv:Nat->Hp->Prop) (h0:Pv 0 H0) (hgo:∀ i H,i<n->Pv i H->J.go i H) (hst:∀ H,Pv n H->J.stop n H)
 (hs:∀ i x H H',i<n->Pv i H->J.yld i H x H'->g x (wipe σ vs) H' fun σ2 H2=>wipe σ2 vs=wipe σ vs/\tt σ2 H2 fun b H3 =>
   if b=true then te σ2 H3 fun y H4=>∃ acc,H4 D=some (.lst acc)/\acc.length<sizeLine/\Pv (i+1) (upd H4 D (.lst (acc++[y]))) else Pv (i+1) H3) (hd:∀ H,Pv n H->Qd H) :
 ∃ W:Nat->Nat->Hp->Prop,(∃ m,W 0 m H0)/\∀ i m H,W i m H ->
  (J.stop i H/\Qd H)\/(J.go i H/\∃ Nx:Hp->Prop,(∀ H',Nx H'->∃ m',m'<m/\W (i+1) m' H')/\∀ x H',J.yld i H x H'->g x (wipe σ vs) H' fun σ2 H2=>wipe σ2 vs=wipe σ vs/\tt σ2 H2 fun b H3 =>
    if b=true then te σ2 H3 fun y H4=>∃ acc,H4 D=some (.lst acc)/\acc.length<sizeLine/\Nx (upd H4 D (.lst (acc++[y]))) else Nx H3):=by
 refine ⟨fun i m H=>m=n-i/\i<=n/\Pv i H,⟨n,by simp,aT _,h0⟩,?_⟩
 rintro i m H ⟨rfl,hi,p⟩
 by_cases hlt:i<n
 ·exact .inr ⟨hgo i H hlt p,Pv (i+1),fun H' p'=>⟨n-(i+1),by omega,rfl,hlt,p'⟩,fun x H' y=>hs i x H H' hlt p y⟩
 ·have e:i=n:=by omega
  subst e
  exact .inl ⟨hst H p,hd H p⟩
theorem Qr (h:B true H):Jv σ H B:=h
theorem Hk {J:It} {vs:List Nat} {D:Addr} {ys:List V} {Qd:Hp->Prop} (hD:H D=none) (hz:ys.length<=sizeLine) (hgo:∀ i acc,i<ys.length->J.go i (upd H D (.lst acc))) (hst:∀ acc,J.stop ys.length (upd H D (.lst acc)))
 (hs:∀ i x acc H' (N:Hp->Prop),i<ys.length->J.yld i (upd H D (.lst acc)) x H'->(∀ y,ys[i]? = some y->∃ a,upd H D (.lst acc) D=some (.lst a)/\a.length<sizeLine/\N (upd (upd H D (.lst acc)) D (.lst (a++[y]))))->acc.length<sizeLine ->
   g x (wipe σ vs) H' fun σ2 H2=>wipe σ2 vs=wipe σ vs/\tt σ2 H2 fun b H3=>if b=true then te σ2 H3 fun y H4=>∃ acc,H4 D=some (.lst acc)/\acc.length<sizeLine/\N (upd H4 D (.lst (acc++[y]))) else N H3)
 (hd:Qd (upd H D (.lst ys))) :
 ∃ W:Nat->Nat->Hp->Prop,(∃ m,W 0 m (upd H D (.lst [])))/\∀ i m H,W i m H ->
  (J.stop i H/\Qd H)\/(J.go i H/\∃ Nx:Hp->Prop,(∀ H',Nx H'->∃ m',m'<m/\W (i+1) m' H')/\∀ x H',J.yld i H x H'->g x (wipe σ vs) H' fun σ2 H2=>wipe σ2 vs=wipe σ vs/\tt σ2 H2 fun b H3 =>
    if b=true then te σ2 H3 fun y H4=>∃ acc,H4 D=some (.lst acc)/\acc.length<sizeLine/\Nx (upd H4 D (.lst (acc++[y]))) else Nx H3):=by
 refine Ls (n:=ys.length) (fun i H'=>H'=upd H D (.lst (ys.take i))) rfl (fun i H' hi e=>by rw [e];exact hgo i _ hi) (fun H' e=>by rw [e];exact hst _) (fun i x H1 H' hi e y => ?_) fun H' e => ?_
 ·subst e
  have hl:(ys.take i).length<sizeLine:=by rw [bL];omega
  refine hs i x (ys.take i) H' (fun H'=>H'=upd H D (.lst (ys.take (i+1)))) hi y (fun z hz'=>⟨_,aw,hl,?_⟩) hl
  rw [gS]
  have:ys.take (i+1)=ys.take i++[z]:=by
   rw [cQ,hz']
   rfl
  rw [this]
 ·rw [e,a8 (ay _)]
  exact hd
theorem QL {f:Str} (h:te σ H fun x H1=>∃ a C dx fs v,x=.ref a/\H1 a=some (.ins C dx fs)/\Cls K C/\dr K C f/\fs.lookup f=some v/\Q v H1):d6 K te f σ H Q:=h
theorem OB {f:Str} {a C dx:Addr} {fs:List (Str×V)} {v:V} (e:H a=some (.ins C dx fs)) (c:Cls K C) (n:dr K C f) {P:V->Prop} (l:fs.lookup f=some v) (h:P v) :
 ∃ a' C dx fs v,V.ref a=.ref a'/\H a'=some (.ins C dx fs)/\Cls K C/\dr K C f/\fs.lookup f=some v/\P v:=⟨a,C,dx,fs,v,rfl,e,c,n,l,h⟩
theorem OG (h:te σ H fun x H1=>ta σ H1 fun y H2=>∃ a v,x=.ref a/\sy H2 a y (some v)/\Q v H2):qb te ta σ H Q:=h
theorem Mv {a:Addr} {n:Int} {kvs:List (Key×V)} {v:V} {P:V->Prop} (e:H a=some (.dK kvs)) (l:b0 kvs (Sum.inl n)=some v) (h:P v):∃ a' v',V.ref a=.ref a'/\sy H a' (.int n) (some v')/\P v' :=
 ⟨a,v,rfl,by rw [<-l];exact sy.k (k:=Sum.inl n) e,h⟩
theorem QM (h:ta σ H fun y H1=>te σ H1 fun x H2=>∃ a o,x=.ref a/\sy H2 a y o/\Q (.bl o.isSome) H2):KG ta te σ H Q:=h
theorem Kt (h:ta σ H fun y H1=>te σ H1 fun x H2=>∃ a o,x=.ref a/\sy H2 a y o/\Q (.bl (!o.isSome)) H2):iG ta te σ H Q:=h
theorem OF {a:Addr} {n:Int} {kvs:List (Key×V)} {P:Option V->Prop} (e:H a=some (.dK kvs)) (h:P (b0 kvs (Sum.inl n))):∃ a' o,V.ref a=.ref a'/\sy H a' (.int n) o/\P o :=
 ⟨a,_,rfl,sy.k (k:=Sum.inl n) e,h⟩
theorem OD (h:te σ H fun v H1=>ta σ H1 fun x H2=>tb σ H2 fun y H3=>∃ a H4,x=.ref a/\Il H3 a y v H4/\D.nx σ H4):Fn ta tb te D σ H:=h
theorem Dh {a:Addr} {n:Int} {kvs:List (Key×V)} {v:V} {P:Hp->Prop} (e:H a=some (.dK kvs)) (z:kvs.length<sizeLine) (h:P (upd H a (.dK (putK kvs (Sum.inl n) v)))):∃ a' H4,V.ref a=.ref a'/\Il H a' (.int n) v H4/\P H4 :=
 ⟨a,_,rfl,Il.k (k:=Sum.inl n) e z,h⟩
theorem OE (h:∀ p,H p=none->Q (.ref p) (upd H p (.dK []))):kX σ H Q:=h
theorem Oj {f:Str} (h:tb σ H fun y H1=>ta σ H1 fun x H2=>∃ a C dx fs,x=.ref a/\H2 a=some (.ins C dx fs)/\Cls K C/\dr K C f/\fs.length<1000/\D.nx σ (upd H2 a (.ins C dx (gu f y fs)))):mr K ta tb f D σ H:=h
theorem dA {f:Str} {a C dx:Addr} {fs:List (Str×V)} {y:V} {P:Hp->Prop} (e:H a=some (.ins C dx fs)) (c:Cls K C) (n:dr K C f) (l:fs.length<1000) (h:P (upd H a (.ins C dx (gu f y fs)))) :
 ∃ a' C dx fs,V.ref a=.ref a'/\H a'=some (.ins C dx fs)/\Cls K C/\dr K C f/\fs.length<1000/\P (upd H a' (.ins C dx (gu f y fs))):=⟨a,C,dx,fs,rfl,e,c,n,l,h⟩
theorem Ov {C:Addr} {m:Str} {sp:Sp} {E:XK} (h:ta σ H fun x H1=>∃ a dx fs,x=.ref a/\H1 a=some (.ins C dx fs)/\fs.lookup m=none/\tr σ H1 fun vs H2=>sp (x::(vs++[])) H2 Q E):fA C m sp [] E ta tr σ H Q:=h
theorem Mp {C a dx:Addr} {m:Str} {fs:List (Str×V)} {P:Prop} (e:H a=some (.ins C dx fs)) (l:fs.lookup m=none) (h:P):∃ a' dx fs,V.ref a=.ref a'/\H a'=some (.ins C dx fs)/\fs.lookup m=none/\P:=⟨a,dx,fs,rfl,e,l,h⟩
theorem QN {a b:Addr} {xs ys:List V} (e1:H a=some (.lst xs)) (e2:H b=some (.lst ys)) (z:xs.length+ys.length<=sizeLine) (h:∀ p,H p=none->Q (.ref p) (upd H p (.lst (xs++ys)))):O1 (.ref a) (.ref b) H Q:=⟨a,b,xs,ys,rfl,rfl,e1,e2,z,h⟩
theorem Qv {a:Addr} {ns:List Int} (s:SqL K H a (ns.map V.int)) (h:Q (.int ns.sum) H):O0 K [.ref a] H Q:=⟨a,ns,rfl,s,h⟩
theorem NU {a:Addr} {bs:List Bool} (s:SqL K H a (bs.map V.bl)) (h:Q (.bl (bs.any id)) H):MK K [.ref a] H Q:=⟨a,bs,rfl,s,h⟩
theorem RX {q:V->Option Int->Option Int->Hp->VK->Prop} {tl th:TO} (h:te σ H fun x H1=>tl σ H1 fun l H2=>th σ H2 fun u H3=>q x l u H3 Q):tSl q te tl th σ H Q:=h
theorem Oq {P:Option Int->Hp->Prop} (h:te σ H fun x H1=>∃ i,x=.int i/\P (some i) H1):sA te σ H P:=h
theorem Mo {i:Int} {P:Int->Prop} (h:P i):∃ i',V.int i=.int i'/\P i':=⟨i,rfl,h⟩
theorem Kr {P:Option Int->Hp->Prop} (h:P none H):yE σ H P:=h
theorem Cp {a:Addr} {xs:List V} {lo hi:Option Int} (s:SqL K H a xs) (h:∀ p,H p=none->Q (.ref p) (upd H p (.lst (rT xs lo hi)))):G4 K (.ref a) lo hi H Q:=⟨a,xs,rfl,s,h⟩
theorem Mr {xs:List V} (h:∀ q,(∀ H',SqT K H' q xs)->Q (.ref q) H):KD K xs σ H Q:=h
theorem Kp {a:Addr} {ys:List V} (s:SqL K H a ys) (h:∀ l,H l=none->Q (.ref l) (upd H l (.tup ys))):G3 K [.ref a] H Q:=⟨a,ys,rfl,.inl ⟨s,h⟩⟩
theorem Ja {xs:List Int} {i j:Nat} (hij:i<=j) (hj:j<=xs.length):rT (xs.map V.int) (some (i:Int)) (some (j:Int))=((xs.drop i).take (j-i)).map V.int:=by
 unfold rT
 rw [HT.uD,HT.uD,ab]
 have e1:min i xs.length=i:=by omega
 have e2:min j xs.length=j:=by omega
 rw [e1,e2,xm,List.map_drop]
end
end L4
set_option maxRecDepth 100000
set_option maxHeartbeats 2000000
namespace L4
open PySem PySem.Spec PyProof.Rows L2 L3
section
variable {K:Frag} {σ : L2.St} {H:Hp} {Q:VK} {te ta tb:TE} {tr:TA} {B:Bool->Hp->Prop} {T:String}
theorem QQ {q:V->List V->Hp->VK->Prop} (h:te σ H fun x H1=>tyV K T x H1/\q x [] H1 Q):KH K T q te σ H Q:=h
theorem QP {q:V->List V->Hp->VK->Prop} (h:te σ H fun x H1=>tyV K "dict" x H1/\tr σ H1 fun xs H2=>q x xs H2 Q):tBM K "dict" q te tr σ H Q:=h
theorem Kv {i:Int} (h:Q (.int (Builtin.Int.intBits i)) H):tyV K "int" (.int i) H/\yG (.int i) [] H Q:=⟨rfl,i,rfl,rfl,h⟩
theorem Ou {i j:Int} (h:Q (.int (if j<i then j else i)) H):NX [.int i,.int j] H Q:=⟨i,j,rfl,h⟩
theorem Qu (h:te σ H fun x H'=>∃ k,L8 K x H' k/\B k H'):Kz K te σ H B:=h
theorem Oh {a:Addr} {xs:List V} {P:Bool->Prop} (s:SqL K H a xs) (h:P (!xs.isEmpty)):∃ k,L8 K (.ref a) H k/\P k:=⟨_,.inl ⟨xs,s,rfl⟩,h⟩
theorem QG (h:te σ H fun x H1=>Q (.bl (decide (x=.non))) H1):OO te σ H Q:=h
theorem Cr {a b:Addr} {xs zs:List V} (e:H a=some (.lst xs)) (e2:H b=some (.lst zs)) (z:xs.length+zs.length<=sizeLine) (h:Q .non (upd H a (.lst (xs++zs)))):uL (.ref a) [.ref b] H Q:=⟨a,b,xs,zs,rfl,rfl,e,e2,z,h⟩
theorem Cq {a b:Addr} {xs zs:List V} (e:H a=some (.lst xs)) (e2:SqT K H b zs) (z:xs.length+zs.length<=sizeLine) (h:Q .non (upd H a (.lst (xs++zs)))):uK K (.ref a) [.ref b] H Q:=⟨a,b,xs,zs,rfl,rfl,e,e2,z,h⟩
theorem Kq {a:Addr} {n:Int} {y:V} {kvs:List (Key×V)} (e:H a=some (.dK kvs)) (z:kvs.length<sizeLine) (h1:∀ v,b0 kvs (Sum.inl n)=some v->Q v H) (h2:b0 kvs (Sum.inl n)=none->Q y (upd H a (.dK (putK kvs (Sum.inl n) y)))):uJ (.ref a) [.int n,y] H Q:=⟨a,kvs,n,y,rfl,rfl,e,z,h1,h2⟩
theorem Ks {RI:It->Hp->Prop} (h:tr σ H fun vs H1=>∃ a xs,vs=[.ref a]/\SqL K H1 a xs/\RI (Ite K a) H1):IP K tr σ H RI:=h
end
end L4
namespace Mt
open Vbcnan
def gN (l:List (Nat×Nat)) (a:Nat):Prop:=∃ p,p∈l/\p.1<=a/\a<=p.2
theorem o5 {a:Nat}:¬gN [] a:=fun ⟨_,h,_⟩=>by simp at h
theorem bz {p:Nat×Nat} {l:List (Nat×Nat)} {a:Nat}:gN (p::l) a↔(p.1<=a/\a<=p.2)\/gN l a:=by
 constructor
 ·rintro ⟨q,h,h1⟩
  rcases ae.mp h with rfl|h
  ·exact .inl h1
  ·exact .inr ⟨q,h,h1⟩
 ·rintro (h|⟨q,h,h1⟩)
  ·exact ⟨p,ae.mpr (.inl rfl),h⟩
  ·exact ⟨q,ae.mpr (.inr h),h1⟩
def Canon:Nat->List (Nat×Nat)->Prop
 |_,[]=>True
 |b,p::l=>b<=p.1/\p.1<=p.2/\Canon (p.2+2) l
def Cb:Nat->List (Nat×Nat)->Prop
 |_,[]=>True
 |b,p::l=>b<=p.1/\p.1<=p.2/\Cb (p.2+1) l
theorem Canon.low:∀ {l:List (Nat×Nat)} {b a:Nat},Canon b l->gN l a->b<=a
 | [],_,_,_,h=>(o5 h).elim
 |p::l,b,a,⟨h1,h2,h3⟩,h=>by
  rcases bz.mp h with ⟨q,_⟩|h
  ·omega
  ·have:=Canon.low h3 h
   omega
theorem Canon.mono:∀ {l:List (Nat×Nat)} {b b':Nat},Canon b l->b'<=b->Canon b' l
 | [],_,_,_,_=>trivial
 |p::l,b,b',⟨h1,h2,h3⟩,h=>⟨by omega,h2,h3⟩
theorem Cb.mono:∀ {l:List (Nat×Nat)} {b b':Nat},Cb b l->b'<=b->Cb b' l
 | [],_,_,_,_=>trivial
 |p::l,b,b',⟨h1,h2,h3⟩,h=>⟨by omega,h2,h3⟩
theorem ve:∀ {l m:List (Nat×Nat)} {b:Nat},Canon b l->Canon b m->(∀ a,gN l a↔gN m a)->l=m
 | [],[],_,_,_,_=>rfl
 | [],q::m,_,_,⟨_,h2,_⟩,h=>(o5 ((h q.1).mpr (bz.mpr (.inl ⟨ay _,h2⟩)))).elim
 |p::l,[],_,⟨_,h2,_⟩,_,h=>(o5 ((h p.1).mp (bz.mpr (.inl ⟨ay _,h2⟩)))).elim
 |p::l,q::m,b,⟨h1,h2,h3⟩,⟨g1,g2,g3⟩,h=>by
  have lo:∀ {a:Nat},gN l a->p.2+2<=a:=fun x=>h3.low x
  have lo':∀ {a:Nat},gN m a->q.2+2<=a:=fun x=>g3.low x
  have e1:q.1<=p.1:=by
   rcases bz.mp ((h p.1).mp (bz.mpr (.inl ⟨ay _,h2⟩))) with x|x
   ·exact x.1
   ·have:=lo' x;omega
  have e2:p.1<=q.1:=by
   rcases bz.mp ((h q.1).mpr (bz.mpr (.inl ⟨ay _,g2⟩))) with x|x
   ·exact x.1
   ·have:=lo x;omega
  have e3:q.2<=p.2:=by
   rcases aZ p.2 q.2 with z|z
   ·rcases bz.mp ((h (p.2+1)).mpr (bz.mpr (.inl ⟨by omega,by omega⟩))) with x|x
    ·omega
    ·have:=lo x;omega
   ·exact z
  have e4:p.2<=q.2:=by
   rcases aZ q.2 p.2 with z|z
   ·rcases bz.mp ((h (q.2+1)).mp (bz.mpr (.inl ⟨by omega,by omega⟩))) with x|x
    ·omega
    ·have:=lo' x;omega
   ·exact z
  have ep:p=q:=Prod.ext (by omega) (by omega)
  subst ep
  have et:l=m:=ve h3 g3 fun a=>by
   constructor
   ·intro x
    rcases bz.mp ((h a).mp (bz.mpr (.inr x))) with y|y
    ·have:=lo x;omega
    ·exact y
   ·intro x
    rcases bz.mp ((h a).mpr (bz.mpr (.inr x))) with y|y
    ·have:=lo' x;omega
    ·exact y
  rw [et]
theorem xC:∀ {l:List (Nat×Nat)} {b:Nat},Cb b l->Canon b (joinRuns l)/\∀ a,gN (joinRuns l) a↔gN l a
 | [],b,_=>⟨trivial,fun a=>Iff.rfl⟩
 |x::l,b,⟨h1,h2,h3⟩=>by
  obtain ⟨ih1,ih2⟩:=xC h3
  unfold joinRuns
  cases e:joinRuns l with
  |nil =>
   rw [e] at ih2
   refine ⟨⟨h1,h2,trivial⟩,fun a => ?_⟩
   rw [bz,bz,ih2]
  |cons y m =>
   rw [e] at ih1 ih2
   obtain ⟨g1,g2,g3⟩:=ih1
   show Canon b (if x.2+1=y.1 then (x.1,y.2)::m else x::y::m)/\∀ a,gN (if x.2+1=y.1 then (x.1,y.2)::m else x::y::m) a↔gN (x::l) a
   by_cases z:x.2+1=y.1
   ·rw [if_pos z]
    refine ⟨⟨h1,by show x.1<=y.2;omega,g3⟩,fun a => ?_⟩
    rw [bz,bz,<-ih2,bz]
    constructor
    ·rintro (⟨q1,q2⟩|q)
     ·have q1:x.1<=a:=q1
      have q2:a<=y.2:=q2
      rcases aZ x.2 a with w|w
      ·exact .inr (.inl ⟨by omega,q2⟩)
      ·exact .inl ⟨q1,w⟩
     ·exact .inr (.inr q)
    ·rintro (⟨q1,q2⟩|⟨q1,q2⟩|q)
     ·exact .inl ⟨q1,by show a<=y.2;omega⟩
     ·exact .inl ⟨by show x.1<=a;omega,q2⟩
     ·exact .inr q
   ·rw [if_neg z]
    refine ⟨⟨h1,h2,by omega,g2,g3⟩,fun a => ?_⟩
    rw [bz,ih2,bz]
def Up:Nat->List Nat->Prop
 |_,[]=>True
 |b,x::l=>b<=x/\x<ALL/\Up (x+1) l
theorem Up.low:∀ {l:List Nat} {b x:Nat},Up b l->x∈l->b<=x/\x<ALL
 |y::l,b,x,⟨h1,h2,h3⟩,h=>by
  rcases ae.mp h with rfl|h
  ·exact ⟨h1,h2⟩
  ·have:=Up.low h3 h
   omega
theorem CB {x:Nat} (hx:x<ALL):∀ {l:List Nat} {b:Nat},Up b l->b<=x->Up b (putNat x l)
 | [],b,_,h=>⟨h,hx,trivial⟩
 |y::l,b,⟨h1,h2,h3⟩,h=>by
  unfold putNat
  by_cases e:x=y
  ·rw [if_pos e]
   exact ⟨h1,h2,h3⟩
  ·rw [if_neg e]
   by_cases e2:x<y
   ·rw [if_pos e2]
    exact ⟨h,hx,by omega,h2,h3⟩
   ·rw [if_neg e2]
    exact ⟨h1,h2,CB hx h3 (by omega)⟩
theorem zB {x y:Nat}:∀ {l:List Nat},y∈putNat x l↔y=x\/y∈l
 | []=>by simp [putNat]
 |z::l=>by
  unfold putNat
  by_cases e:x=z
  ·rw [if_pos e]
   subst e
   simp
  ·rw [if_neg e]
   by_cases e2:x<z
   ·rw [if_pos e2]
    simp
   ·rw [if_neg e2,ae,zB,ae]
    constructor
    ·rintro (h|h|h)
     ·exact .inr (.inl h)
     ·exact .inl h
     ·exact .inr (.inr h)
    ·rintro (h|h|h)
     ·exact .inr (.inl h)
     ·exact .inl h
     ·exact .inr (.inr h)
theorem IV:∀ {l:List Nat},(∀ x,x∈l->x<ALL)->Up 0 (l.foldr putNat [0])/\∀ y,y∈l.foldr putNat [0]↔y=0\/y∈l
 | [],_=>⟨⟨ay _,by decide,trivial⟩,fun y=>by simp⟩
 |x::l,h=>by
  obtain ⟨a,b⟩:=IV (l:=l) fun y hy=>h y (ae.mpr (.inr hy))
  rw [List.foldr_cons]
  refine ⟨CB (h x (ae.mpr (.inl rfl))) a (aT _),fun y => ?_⟩
  rw [zB,b,ae]
  constructor
  ·rintro (h|h|h)
   ·exact .inr (.inl h)
   ·exact .inl h
   ·exact .inr (.inr h)
  ·rintro (h|h|h)
   ·exact .inr (.inl h)
   ·exact .inl h
   ·exact .inr (.inr h)
def marks (gs:List Group):List Nat:=gs.flatMap fun g=>g.parts.flatMap fun p=>match p with
 |.add lo hi=>[lo,hi+1]
 |.sub lo hi=>[lo,hi+1]
 |_=>[]
theorem vb (gs:List Group):Up 0 (cuts gs)/\∀ y,y∈cuts gs↔y=0\/(y∈marks gs/\y<ALL):=by
 have h:=IV (l:=(marks gs).filter fun x=>decide (x<ALL)) fun x hx=>of_decide_eq_true (fz.mp hx).2
 refine ⟨h.1,fun y => ?_⟩
 have e:=h.2 y
 rw [fz,decide_eq_true_iff] at e
 exact e
theorem rm (gs:List Group):∃ l,cuts gs=0::l:=by
 obtain ⟨h1,h2⟩:=vb gs
 have h0:0∈cuts gs:=(h2 0).mpr (.inl rfl)
 cases e:cuts gs with
 |nil=>rw [e] at h0;simp at h0
 |cons x l =>
  rw [e] at h0 h1
  obtain ⟨a,b,c⟩:=h1
  rcases ae.mp h0 with z|z
  ·exact ⟨l,by rw [<-z]⟩
  ·have:=Up.low c z
   omega
theorem oA:∀ {l:List Nat} {x:Nat},x<ALL->Up (x+1) l->Cb x (pieces (x::l))/\(∀ a,x<=a->a<ALL->gN (pieces (x::l)) a) /\
 (∀ p,p∈pieces (x::l)->p.1∈x::l/\p.2<ALL/\∀ c,c∈x::l->¬(p.1<c/\c<=p.2))
 | [],x,hx,_=>by
  refine ⟨⟨ay _,by show x<=ALL-1;omega,trivial⟩,fun a h1 h2=>bz.mpr (.inl ⟨h1,by show a<=ALL-1;omega⟩),fun p hp => ?_⟩
  have e:p=(x,ALL-1):=aO.mp hp
  subst e
  refine ⟨by simp,by show ALL-1<ALL;omega,fun c hc ⟨h1,h2⟩ => ?_⟩
  have e:c=x:=aO.mp hc
  have h1:x<c:=h1
  omega
 |y::l,x,hx,⟨h1,h2,h3⟩=>by
  obtain ⟨a1,a2,a3⟩:=oA h2 h3
  have e:pieces (x::y::l)=(x,y-1)::pieces (y::l):=rfl
  rw [e]
  refine ⟨⟨ay _,by show x<=y-1;omega,a1.mono (by show y-1+1<=y;omega)⟩,fun a g1 g2 => ?_,fun p hp => ?_⟩
  ·rcases aZ a y with z|z
   ·exact bz.mpr (.inl ⟨g1,by show a<=y-1;omega⟩)
   ·exact bz.mpr (.inr (a2 a z g2))
  ·rcases ae.mp hp with rfl|hp
   ·refine ⟨by simp,by show y-1<ALL;omega,fun c hc ⟨q1,q2⟩ => ?_⟩
    have q1:x<c:=q1
    have q2:c<=y-1:=q2
    rcases ae.mp hc with z|z
    ·omega
    ·rcases ae.mp z with z|z
     ·omega
     ·have:=Up.low h3 z
      omega
   ·obtain ⟨b1,b2,b3⟩:=a3 p hp
    refine ⟨ae.mpr (.inr b1),b2,fun c hc ⟨q1,q2⟩ => ?_⟩
    have hb:y<=p.1:=by
     rcases ae.mp b1 with z|z
     ·omega
     ·have:=Up.low h3 z
      omega
    rcases ae.mp hc with z|z
    ·omega
    ·exact b3 c z ⟨q1,q2⟩
theorem qo (f:Nat×Nat->Bool):∀ {l:List (Nat×Nat)} {b:Nat},Cb b l->Cb b (l.filter f)
 | [],_,_=>trivial
 |x::l,b,⟨h1,h2,h3⟩=>by
  rw [pN]
  by_cases e:f x=true
  ·rw [if_pos e]
   exact ⟨h1,h2,qo f h3⟩
  ·rw [if_neg e]
   exact (qo f h3).mono (by omega)
theorem uW {before:List (Nat×Bool)} {a c:Nat} (hca:c<=a):∀ (l:List Part) (z:Bool),(∀ t,t∈(l.flatMap fun p=>match p with
 |.add lo hi=>[lo,hi+1]
 |.sub lo hi=>[lo,hi+1]
 |_=>[])->¬(c<t/\t<=a)) ->
 l.foldl (fun b p=>match p with
 |.add lo hi=>b || (decide (lo<=a)&&decide (a<=hi))
 |.sub lo hi=>b && !(decide (lo<=a)&&decide (a<=hi))
 |.with_ g=>b || before.any fun x=>x.1==g&&x.2
 |.but g=>b && !before.any fun x=>x.1==g&&x.2) z=l.foldl (fun b p=>match p with
 |.add lo hi=>b || (decide (lo<=c)&&decide (c<=hi))
 |.sub lo hi=>b && !(decide (lo<=c)&&decide (c<=hi))
 |.with_ g=>b || before.any fun x=>x.1==g&&x.2
 |.but g=>b && !before.any fun x=>x.1==g&&x.2) z
 | [],_,_=>rfl
 |p::l,z,h=>by
  have hl:=uW (before:=before) hca l
  rw [ef,ef]
  have h':∀ t,t∈(l.flatMap fun p=>match p with
   |.add lo hi=>[lo,hi+1]
   |.sub lo hi=>[lo,hi+1]
   |_=>[])->¬(c<t/\t<=a):=fun t ht=>h t (by rw [dh];exact cf _ ht)
  have key:∀ lo hi:Nat,lo ∈ [lo,hi+1]->(¬(c<lo/\lo<=a))->(¬(c<hi+1/\hi+1<=a))->(decide (lo<=a)&&decide (a<=hi))=(decide (lo<=c)&&decide (c<=hi)):=fun lo hi _ q1 q2=>by
   rw [<-Bool.decide_and,<-Bool.decide_and]
   apply decide_eq_decide.mpr
   omega
  cases p with
  |add lo hi =>
   have q:=key lo hi (by simp) (h lo (by simp)) (h (hi+1) (by simp))
   simp only [q]
   exact hl _ h'
  |sub lo hi =>
   have q:=key lo hi (by simp) (h lo (by simp)) (h (hi+1) (by simp))
   simp only [q]
   exact hl _ h'
  |with_ g=>exact hl _ h'
  |but g=>exact hl _ h'
theorem zT {a c:Nat} (hca:c<=a):∀ (gs:List Group) (z:List (Nat×Bool)),(∀ t,t∈marks gs->¬(c<t/\t<=a)) ->
 gs.foldl (fun l g=>l++[(g.id,inParts l a g.parts)]) z=gs.foldl (fun l g=>l++[(g.id,inParts l c g.parts)]) z
 | [],_,_=>rfl
 |g::gs,z,h=>by
  rw [ef,ef]
  have e:inParts z a g.parts=inParts z c g.parts:=uW hca g.parts false fun t ht=>h t (by unfold marks;rw [dh];exact List.mem_append_left _ ht)
  rw [e]
  exact zT hca gs _ fun t ht=>h t (by unfold marks;rw [dh];exact cf _ ht)
theorem JY {gs:List Group} {id a c:Nat} (hca:c<=a) (h:∀ t,t∈marks gs->¬(c<t/\t<=a)):isIn gs id a=isIn gs id c:=by
 unfold isIn inAll
 rw [zT hca gs [] h]
theorem tq {gs:List Group} {id a:Nat} {p:Nat×Nat} (hp:p∈pieces (cuts gs)) (h1:p.1<=a) (h2:a<=p.2):isIn gs id a=isIn gs id p.1:=by
 obtain ⟨l,e⟩:=rm gs
 obtain ⟨u1,u2⟩:=vb gs
 rw [e] at hp u1
 obtain ⟨b1,b2,b3⟩:=(oA u1.2.1 u1.2.2).2.2 p hp
 refine JY h1 fun t ht ⟨q1,q2⟩ => ?_
 refine b3 t ?_ ⟨q1,by omega⟩
 rw [<-e]
 exact (u2 t).mpr (.inr ⟨ht,by omega⟩)
theorem zD {gs:List Group} {a:Nat} (h:a<ALL):∃ p,p∈pieces (cuts gs)/\p.1<=a/\a<=p.2:=by
 obtain ⟨l,e⟩:=rm gs
 obtain ⟨u1,u2⟩:=vb gs
 rw [e] at u1 ⊢
 exact (oA u1.2.1 u1.2.2).2.1 a (aT _) h
theorem CG {gs:List Group} {p:Nat×Nat} (hp:p∈pieces (cuts gs)):p.1<=p.2/\p.2<ALL:=by
 obtain ⟨l,e⟩:=rm gs
 obtain ⟨u1,u2⟩:=vb gs
 rw [e] at hp u1
 obtain ⟨r,_,b⟩:=oA u1.2.1 u1.2.2
 refine ⟨?_,(b p hp).2.1⟩
 have:∀ {l:List (Nat×Nat)} {b:Nat},Cb b l->p∈l->p.1<=p.2:=by
  intro l
  induction l with
  |nil=>intro b _ h;simp at h
  |cons x l ih =>
   intro b ⟨_,h2,h3⟩ h
   rcases ae.mp h with rfl|h
   ·exact h2
   ·exact ih h3 h
 exact this r hp
theorem Cz (gs:List Group) (id:Nat):Canon 0 (runsOf gs id)/\∀ a,gN (runsOf gs id) a↔(a<ALL/\isIn gs id a=true):=by
 have hR:Cb 0 (pieces (cuts gs)):=by
  obtain ⟨l,e⟩:=rm gs
  obtain ⟨u1,u2⟩:=vb gs
  rw [e] at u1 ⊢
  exact (oA u1.2.1 u1.2.2).1
 obtain ⟨h1,h2⟩:=xC (qo (fun p=>isIn gs id p.1) hR)
 refine ⟨h1,fun a => ?_⟩
 unfold runsOf
 rw [h2 a]
 constructor
 ·rintro ⟨p,hp,q1,q2⟩
  obtain ⟨hp1,hp2⟩:=fz.mp hp
  have:=(CG hp1).2
  exact ⟨by omega,by rw [tq hp1 q1 q2];exact hp2⟩
 ·rintro ⟨ha,hin⟩
  obtain ⟨p,hp,q1,q2⟩:=zD (gs:=gs) ha
  exact ⟨p,fz.mpr ⟨hp,by rw [tq hp q1 q2] at hin;exact hin⟩,q1,q2⟩
theorem JD {gs:List Group} {id:Nat} {l:List (Nat×Nat)} (hc:Canon 0 l) (h:∀ a,gN l a↔(a<ALL/\isIn gs id a=true)):runsOf gs id=l :=
 ve (Cz gs id).1 hc fun a=>by rw [(Cz gs id).2 a,h a]
theorem Hq {gs:List Group} {i j:Nat}:((pieces (cuts gs)).all fun p => !isIn gs i p.1 || isIn gs j p.1)=true↔∀ a,a<ALL->isIn gs i a=true->isIn gs j a=true:=by
 rw [List.all_eq_true]
 constructor
 ·intro h a ha hi
  obtain ⟨p,hp,q1,q2⟩:=zD (gs:=gs) ha
  have z:=h p hp
  rw [tq hp q1 q2] at hi ⊢
  rw [hi] at z
  simpa using z
 ·intro h p hp
  obtain ⟨q1,q2⟩:=CG hp
  cases e:isIn gs i p.1 with
  |false=>rfl
  |true =>
   rw [h p.1 (by omega) e]
   rfl
end Mt
namespace Mt
open Vbcnan
theorem zM {x i j:Nat} (h:x%2 ^ j=0) (hij:i<=j):x%2 ^ i=0 :=
 og (Nat.dvd_trans (Nat.pow_dvd_pow 2 hij) (oh h))
theorem jZ {lo hi:Nat} (h:lo<=hi):∀ w,blockAt lo hi w<=w/\lo%2 ^ blockAt lo hi w=0/\lo+2 ^ blockAt lo hi w<=hi+1 /\
 ∀ j,blockAt lo hi w<j->j<=w->¬(lo%2 ^ j=0/\lo+2 ^ j<=hi+1)
 |0=>by
  refine ⟨ay _,by show lo%2 ^ 0=0;simp [Nat.mod_one],by show lo+2 ^ 0<=hi+1;simp;exact h,fun j h1 h2 => ?_⟩
  have:blockAt lo hi 0=0:=rfl
  omega
 |w+1=>by
  unfold blockAt
  by_cases e:lo%2 ^ (w+1)=0/\lo+2 ^ (w+1)<=hi+1
  ·rw [if_pos e]
   exact ⟨ay _,e.1,e.2,fun j h1 h2=>by omega⟩
  ·rw [if_neg e]
   obtain ⟨a,b,c,d⟩:=jZ h w
   refine ⟨by omega,b,c,fun j h1 h2 => ?_⟩
   rcases aZ w j with z|z
   ·have:j=w+1:=by omega
    subst this
    exact e
   ·exact d j h1 z
theorem Ak {lo hi w k:Nat} (h:lo<=hi) (h1:k<=w) (h2:lo%2 ^ k=0) (h3:lo+2 ^ k<=hi+1) (h4:∀ j,k<j->j<=w->¬(lo%2 ^ j=0/\lo+2 ^ j<=hi+1)):blockAt lo hi w=k:=by
 obtain ⟨a,b,c,d⟩:=jZ h w
 rcases vE (blockAt lo hi w) k with z|z|z
 ·exact absurd ⟨h2,h3⟩ (d k z h1)
 ·exact z
 ·exact absurd ⟨b,c⟩ (h4 _ z a)
inductive Cov (w hi:Nat):Nat->List (Nat×Nat)->Prop
 |nil {lo:Nat}:hi<lo->Cov w hi lo []
 |cons {lo:Nat} {l:List (Nat×Nat)}:lo<=hi->Cov w hi (lo+2 ^ blockAt lo hi w) l->Cov w hi lo ((lo,blockAt lo hi w)::l)
theorem C6 {w hi:Nat}:∀ {n lo:Nat} {l:List (Nat×Nat)},Cov w hi lo l->l.length<=n->cover w n lo hi=l
 |0,lo,_,.nil h,_=>rfl
 |0,lo,_,.cons h c,hl=>by simp at hl
 |n+1,lo,_,.nil h,_=>by
  unfold cover
  rw [if_pos h]
 |n+1,lo,_,.cons (l:=l) h c,hl=>by
  unfold cover
  rw [if_neg (by omega)]
  show (lo,blockAt lo hi w)::cover w n (lo+2 ^ blockAt lo hi w) hi=_
  rw [C6 c (by simp at hl;omega)]
theorem Ge {w hi:Nat}:∀ {l:List (Nat×Nat)} {lo m:Nat},Cov w hi lo l->m<=w->lo%2 ^ m=0->hi+1<lo+2 ^ m->l.length<=m
 |_,lo,m,.nil h,_,_,_=>by simp
 |_,lo,m,.cons (l:=l) h c,hm,h1,h2=>by
  obtain ⟨a,b,d,e⟩:=jZ h w
  generalize blockAt lo hi w=k at *
  have hk:k<m:=by
   rcases aZ k m with z|z
   ·exact z
   ·have:=j7 (show 0<2 by decide) z
    omega
  have h3:¬(lo+2 ^ (k+1)<=hi+1):=fun q=>e (k+1) (by omega) (by omega) ⟨zM h1 (by omega),q⟩
  have h4:(2:Nat) ^ (k+1)=2 ^ k+2 ^ k:=by rw [kP];omega
  have h5:(lo+2 ^ k)%2 ^ k=0:=by rw [Nat.add_mod_right];exact b
  have:=Ge (m:=k) c (by omega) h5 (by omega)
  simp
  omega
theorem Pb {x k:Nat} (h:x%2 ^ k=0) (h':¬x%2 ^ (k+1)=0):(x+2 ^ k)%2 ^ (k+1)=0:=by
 obtain ⟨q,e⟩:=oh h
 rcases ug q with z|z
 ·refine absurd (og ⟨q / 2,?_⟩) h'
  rw [e,kP,Nat.mul_assoc]
  congr 1
  omega
 ·refine og ⟨q / 2+1,?_⟩
  rw [e,kP,Nat.mul_assoc,<-Nat.mul_succ]
  congr 1
  omega
theorem HI {w hi:Nat} (hw:hi+1<=2 ^ w):∀ {l:List (Nat×Nat)} {lo j:Nat},Cov w hi lo l->j<=w->lo%2 ^ j=0->l.length<=(w-j)+w+1
 |_,lo,j,.nil h,_,_=>by simp
 |_,lo,j,.cons (l:=l) h c,hj,h1=>by
  obtain ⟨a,b,d,e⟩:=jZ h w
  generalize blockAt lo hi w=k at *
  have h5:(lo+2 ^ k)%2 ^ k=0:=by rw [Nat.add_mod_right];exact b
  rcases aZ k w with z|z
  ·by_cases g:lo%2 ^ (k+1)=0
   ·have h3:¬(lo+2 ^ (k+1)<=hi+1):=fun q=>e (k+1) (by omega) (by omega) ⟨g,q⟩
    have h4:(2:Nat) ^ (k+1)=2 ^ k+2 ^ k:=by rw [kP];omega
    have:=Ge (m:=k) c (by omega) h5 (by omega)
    simp
    omega
   ·have hkj:j<=k:=by
     rcases aZ k j with y|y
     ·exact absurd (zM h1 (by omega)) g
     ·exact y
    have:=HI hw (j:=k+1) c (by omega) (Pb b g)
    simp
    omega
  ·have ek:k=w:=by omega
   subst ek
   have hl:hi<lo+2 ^ k:=by omega
   cases c with
   |nil _=>simp
   |cons q _=>omega
theorem mY {w lo hi:Nat} {l:List (Nat×Nat)} (hw:hi+1<=2 ^ w) (c:Cov w hi lo l):coverOf w lo hi=l:=by
 refine C6 c ?_
 have:=HI hw (j:=0) c (aT _) (by simp [Nat.mod_one])
 omega
theorem Ey (w hi:Nat):∀ (n lo:Nat),hi+1-lo<=n->∃ l,Cov w hi lo l
 |0,lo,h=>⟨[],.nil (by omega)⟩
 |n+1,lo,h=>by
  rcases aZ hi lo with z|z
  ·exact ⟨[],.nil z⟩
  ·have:=Nat.one_le_two_pow (n:=blockAt lo hi w)
   obtain ⟨l,hl⟩:=Ey w hi n (lo+2 ^ blockAt lo hi w) (by omega)
   exact ⟨_,.cons z hl⟩
theorem NF {w lo hi:Nat} {l:List (Nat×Nat)} (hw:hi+1<=2 ^ w) (c:Cov w hi lo l):l.length<=2*w+1:=by
 have:=HI hw (j:=0) c (aT _) (by simp [Nat.mod_one])
 omega
theorem o9 {w lo hi:Nat} (hw:hi+1<=2 ^ w):coverOf w lo hi=if hi<lo then [] else (lo,blockAt lo hi w)::coverOf w (lo+2 ^ blockAt lo hi w) hi:=by
 obtain ⟨l,c⟩:=Ey w hi _ lo (ay _)
 rw [mY hw c]
 cases c with
 |nil h=>rw [if_pos h]
 |cons h c=>rw [if_neg (by omega),mY hw c]
theorem gQ {w lo hi:Nat} (hw:hi+1<=2 ^ w):(coverOf w lo hi).length<=2*w+1:=by
 obtain ⟨l,c⟩:=Ey w hi _ lo (ay _)
 rw [mY hw c]
 exact NF hw c
theorem jf {α β : Type} (f : α -> List β) (n:Nat):∀ {l:List α},(∀ x,x∈l->(f x).length=n)->(l.flatMap f).length=l.length*n
 | [],_=>by simp
 |x::l,h=>by
  rw [dh,aG,h x (ae.mpr (.inl rfl)),jf f n fun y hy=>h y (ae.mpr (.inr hy)),bM,Nat.succ_mul]
  omega
theorem sX (gs:List Group) (r:Rule):(rowsOf gs r).length=countOf gs r:=by
 unfold rowsOf countOf
 rw [jf _ ((fieldsOf gs r.dst).length*(coverOf 16 r.lo r.hi).length) fun a _ => ?_]
 rw [jf _ (coverOf 16 r.lo r.hi).length fun b _ => ?_]
 rw [ab,ab]
theorem Ac (gs:List Group):∀ (l:List Rule) (n:Nat),l.foldl (fun n r=>n+countOf gs r) n=n+(l.flatMap fun r=>rowsOf gs r).length
 | [],n=>by simp
 |r::l,n=>by
  rw [ef,Ac gs l,dh,aG,sX]
  omega
theorem uI (s:State):rawCount s=(rawRows s).length:=by
 unfold rawCount rawRows
 rw [Ac]
 omega
end Mt
namespace Mt
open Vbcnan
abbrev Inc (l:List Int):Prop:=l.Pairwise (· < ·)
def cnt (l:List Int) (a:Int):Nat:=l.countP fun e=>decide (e<=a)
def odd (l:List Int) (a:Int):Bool:=cnt l a%2==1
theorem yK {l:List Int} {a:Int} (h:∀ x,x∈l->x<=a):cnt l a=l.length:=by
 unfold cnt
 rw [List.countP_eq_length]
 exact fun x hx=>decide_eq_true (h x hx)
theorem cnt_none {l:List Int} {a:Int} (h:∀ x,x∈l->a<x):cnt l a=0:=by
 unfold cnt
 rw [List.countP_eq_zero]
 intro x hx q
 have:=h x hx
 have:=of_decide_eq_true q
 omega
theorem cnt_append (l m:List Int) (a:Int):cnt (l++m) a=cnt l a+cnt m a:=List.countP_append ..
theorem wD {l:List Int} {a:Int} (i:Nat) (hi:i<=l.length) (h1:∀ x,x∈l.take i->x<=a) (h2:∀ x,x∈l.drop i->a<x):cnt l a=i:=by
 have e:l.take i++l.drop i=l:=gd i l
 rw [<-e,cnt_append,yK h1,cnt_none h2,bL]
 omega
structure jh (es ts:List Int) (yes:Bool) (m:List Int) (inside:Bool) (i j:Nat):Prop where
 hi:i<=es.length
 hj:j<=ts.length
 inc:Inc m
 Q9:∀ x,x∈m->∀ e,e∈es.drop i->x<e
 Sr:∀ x,x∈m->∀ t,t∈ts.drop j->x<t
 et:∀ x,x∈es.take i->∀ t,t∈ts.drop j->x<t
 te:∀ x,x∈ts.take j->∀ e,e∈es.drop i->x<e
 ins:inside=(m.length%2==1)
 now:inside=(if j%2==1 then yes else i%2==1)
 sub:∀ x,x∈m->x∈es\/x∈ts
 sem:∀ a,(∀ e,e∈es.drop i->a<e)->(∀ t,t∈ts.drop j->a<t)->odd m a=if odd ts a then yes else odd es a
theorem jh.start (es ts:List Int) (yes:Bool):jh es ts yes [] false 0 0:=by
 refine ⟨aT _,aT _,List.Pairwise.nil,?_,?_,?_,?_,rfl,rfl,?_,fun a h1 h2 => ?_⟩
 ·intro x hx;simp at hx
 ·intro x hx;simp at hx
 ·intro x hx;simp at hx
 ·intro x hx;simp at hx
 ·intro x hx;simp at hx
 ·have e1:cnt es a=0:=cnt_none (by simpa using h1)
  have e2:cnt ts a=0:=cnt_none (by simpa using h2)
  unfold odd
  rw [e1,e2]
  rfl
theorem jE {l:List Int} (h:Inc l) {i:Nat} {x:Int} (hx:l[i]? = some x):(∀ y,y∈l.take i->y<x)/\(∀ y,y∈l.drop (i+1)->x<y)/\l.drop i=x::l.drop (i+1)/\l.take (i+1)=l.take i++[x]:=by
 obtain ⟨hlt,rfl⟩:=ak.mp hx
 have e:l.drop i=l[i]::l.drop (i+1):=bq hlt
 have e2:l.take (i+1)=l.take i++[l[i]]:=by rw [cQ,aC hlt];rfl
 have p:(l.take i++l.drop i).Pairwise (· < ·):=by rw [gd];exact h
 rw [List.pairwise_append] at p
 obtain ⟨p1,p2,p3⟩:=p
 rw [e,aR] at p2
 exact ⟨fun y hy=>p3 y hy _ (by rw [e];exact ae.mpr (.inl rfl)),p2.1,e,e2⟩
theorem LA {l:List Int} {x:Int} (h:Inc l) (hx:∀ y,y∈l->y<x):Inc (l++[x]):=by
 rw [Inc,List.pairwise_append]
 exact ⟨h,List.pairwise_singleton ..,fun a ha b hb=>by rw [aO.mp hb];exact hx a ha⟩
theorem jh.step {es ts m:List Int} {yes inside:Bool} {i j i' j':Nat} {x:Int} (M:jh es ts yes m inside i j)
 (hi':i'<=es.length) (hj':j'<=ts.length) (t1:∀ y,y∈es.take i'->y<=x) (t2:∀ y,y∈ts.take j'->y<=x) (d1:∀ y,y∈es.drop i'->x<y) (d2:∀ y,y∈ts.drop j'->x<y)
 (o1:∀ y,y∈es.drop i->x<=y) (o2:∀ y,y∈ts.drop j->x<=y) (hm:∀ y,y∈m->y<x) (hx:x∈es\/x∈ts) :
 jh es ts yes (if (if j'%2==1 then yes else i'%2==1) != inside then m++[x] else m) (if j'%2==1 then yes else i'%2==1) i' j':=by
 generalize hn:(if j'%2==1 then yes else i'%2==1)=now
 have key:∀ m':List Int,(∀ y,y∈m'->y∈m\/y=x)->Inc m'->now=(m'.length%2==1)->(∀ a,a<x->cnt m' a=cnt m a)->jh es ts yes m' now i' j':=by
  intro m' wo mM Rp hc
  have hle:∀ y,y∈m'->y<=x:=fun y hy=>by
   rcases wo y hy with z|z
   ·have:=hm y z;omega
   ·omega
  refine ⟨hi',hj',mM,fun y hy e he => ?_,fun y hy t ht => ?_,fun y hy t ht => ?_,fun y hy e he => ?_,Rp,hn.symm,fun y hy => ?_,fun a h1 h2 => ?_⟩
  ·have:=hle y hy;have:=d1 e he;omega
  ·have:=hle y hy;have:=d2 t ht;omega
  ·have:=t1 y hy;have:=d2 t ht;omega
  ·have:=t2 y hy;have:=d1 e he;omega
  ·rcases wo y hy with z|z
   ·exact M.sub y z
   ·rw [z];exact hx
  ·rcases Int.lt_or_le a x with z|z
   ·have q:=M.sem a (fun e he=>by have:=o1 e he;omega) (fun t ht=>by have:=o2 t ht;omega)
    unfold odd at q ⊢
    rw [hc a z]
    exact q
   ·have c1:cnt es a=i':=wD i' hi' (fun y hy=>by have:=t1 y hy;omega) h1
    have c2:cnt ts a=j':=wD j' hj' (fun y hy=>by have:=t2 y hy;omega) h2
    have c3:cnt m' a=m'.length:=yK fun y hy=>by have:=hle y hy;omega
    unfold odd
    rw [c1,c2,c3,<-Rp]
    exact hn.symm
 by_cases e:(now != inside)=true
 ·rw [if_pos e]
  refine key _ (fun y hy => ?_) (LA M.inc hm) ?_ fun a ha => ?_
  ·rcases aQ.mp hy with z|z
   ·exact .inl z
   ·exact .inr (aO.mp z)
  ·have e1:=M.ins
   rw [aG,cg]
   have e2:now = !inside:=by
    cases now<;>cases inside<;>simp at e ⊢
   rw [e2,e1]
   rcases ug m.length with z|z
   ·have:(m.length+1)%2=1:=by omega
    rw [z,this];rfl
   ·have:(m.length+1)%2=0:=by omega
    rw [z,this];rfl
  ·rw [cnt_append,cnt_none (l:=[x]) fun y hy=>by rw [aO.mp hy];exact ha]
   omega
 ·rw [if_neg e]
  refine key _ (fun y hy=>.inl hy) M.inc ?_ fun a _=>rfl
  have e2:now=inside:=by
   cases now<;>cases inside<;>simp at e ⊢
  rw [e2]
  exact M.ins
theorem jh.NV {es ts m:List Int} {yes inside:Bool} {i j:Nat} {x:Int} (M:jh es ts yes m inside i j) (he:Inc es) (ht:Inc ts) (hx:es[i]? = some x) (hlt:∀ t,ts[j]? = some t->x<t) :
 jh es ts yes (if (if j%2==1 then yes else (i+1)%2==1) != inside then m++[x] else m) (if j%2==1 then yes else (i+1)%2==1) (i+1) j:=by
 obtain ⟨a1,a2,a3,a4⟩:=jE he hx
 have hil:=(ak.mp hx).1
 have M0:x∈es.drop i:=by rw [a3];exact ae.mpr (.inl rfl)
 have dT:∀ y,y∈ts.drop j->x<y:=fun y hy=>by
  cases q:ts[j]? with
  |none =>
   rw [c7 (List.getElem?_eq_none_iff.mp q)] at hy
   simp at hy
  |some t =>
   have:=hlt t q
   obtain ⟨b1,b2,b3,b4⟩:=jE ht q
   rw [b3] at hy
   rcases ae.mp hy with z|z
   ·omega
   ·have:=b2 y z;omega
 refine M.step (by omega) M.hj (fun y hy => ?_) (fun y hy => ?_) a2 dT (fun y hy => ?_) (fun y hy=>by have:=dT y hy;omega) (fun y hy=>M.Q9 y hy x M0) (.inl (aJ hx))
 ·rw [a4] at hy
  rcases aQ.mp hy with z|z
  ·have:=a1 y z;omega
  ·have:=aO.mp z;omega
 ·have:=M.te y hy x M0;omega
 ·rw [a3] at hy
  rcases ae.mp hy with z|z
  ·omega
  ·have:=a2 y z;omega
theorem jh.stepT {es ts m:List Int} {yes inside:Bool} {i j:Nat} {x:Int} (M:jh es ts yes m inside i j) (he:Inc es) (ht:Inc ts) (hx:ts[j]? = some x) (hlt:∀ e,es[i]? = some e->x<e) :
 jh es ts yes (if (if (j+1)%2==1 then yes else i%2==1) != inside then m++[x] else m) (if (j+1)%2==1 then yes else i%2==1) i (j+1):=by
 obtain ⟨a1,a2,a3,a4⟩:=jE ht hx
 have hil:=(ak.mp hx).1
 have Q8:x∈ts.drop j:=by rw [a3];exact ae.mpr (.inl rfl)
 have dE:∀ y,y∈es.drop i->x<y:=fun y hy=>by
  cases q:es[i]? with
  |none =>
   rw [c7 (List.getElem?_eq_none_iff.mp q)] at hy
   simp at hy
  |some t =>
   have:=hlt t q
   obtain ⟨b1,b2,b3,b4⟩:=jE he q
   rw [b3] at hy
   rcases ae.mp hy with z|z
   ·omega
   ·have:=b2 y z;omega
 refine M.step M.hi (by omega) (fun y hy => ?_) (fun y hy => ?_) dE a2 (fun y hy=>by have:=dE y hy;omega) (fun y hy => ?_) (fun y hy=>M.Sr y hy x Q8) (.inr (aJ hx))
 ·have:=M.et y hy x Q8;omega
 ·rw [a4] at hy
  rcases aQ.mp hy with z|z
  ·have:=a1 y z;omega
  ·have:=aO.mp z;omega
 ·rw [a3] at hy
  rcases ae.mp hy with z|z
  ·omega
  ·have:=a2 y z;omega
theorem jh.QW {es ts m:List Int} {yes inside:Bool} {i j:Nat} {x:Int} (M:jh es ts yes m inside i j) (he:Inc es) (ht:Inc ts) (hx:es[i]? = some x) (hy:ts[j]? = some x) :
 jh es ts yes (if (if (j+1)%2==1 then yes else (i+1)%2==1) != inside then m++[x] else m) (if (j+1)%2==1 then yes else (i+1)%2==1) (i+1) (j+1):=by
 obtain ⟨a1,a2,a3,a4⟩:=jE he hx
 obtain ⟨b1,b2,b3,b4⟩:=jE ht hy
 have hil:=(ak.mp hx).1
 have hjl:=(ak.mp hy).1
 have M0:x∈es.drop i:=by rw [a3];exact ae.mpr (.inl rfl)
 refine M.step (by omega) (by omega) (fun y hy => ?_) (fun y hy => ?_) a2 b2 (fun y hy => ?_) (fun y hy => ?_) (fun y hy=>M.Q9 y hy x M0) (.inl (aJ hx))
 ·rw [a4] at hy
  rcases aQ.mp hy with z|z
  ·have:=a1 y z;omega
  ·have:=aO.mp z;omega
 ·rw [b4] at hy
  rcases aQ.mp hy with z|z
  ·have:=b1 y z;omega
  ·have:=aO.mp z;omega
 ·rw [a3] at hy
  rcases ae.mp hy with z|z
  ·omega
  ·have:=a2 y z;omega
 ·rw [b3] at hy
  rcases ae.mp hy with z|z
  ·omega
  ·have:=b2 y z;omega
theorem jh.done {es ts m:List Int} {yes inside:Bool} (M:jh es ts yes m inside es.length ts.length):Inc m/\(∀ x,x∈m->x∈es\/x∈ts)/\∀ a,odd m a=if odd ts a then yes else odd es a :=
 ⟨M.inc,M.sub,fun a=>M.sem a (by simp) (by simp)⟩
end Mt
namespace Mt
open Vbcnan
structure dY (es:List Int):Prop where
 inc:Inc es
 bnd:∀ x,x∈es->0<=x/\x<=4294967296
 wB:es.length%2=0
theorem dY.nil:dY []:=⟨List.Pairwise.nil,fun x h=>by simp at h,rfl⟩
theorem dY.range {lo hi:Nat} (h1:lo<=hi) (h2:hi<ALL):dY [(lo:Int),(hi:Int)+1]:=by
 have h2:hi<4294967296:=h2
 refine ⟨?_,fun x h => ?_,by simp⟩
 ·rw [Inc,aR]
  exact ⟨fun y hy=>by rw [aO.mp hy];omega,List.pairwise_singleton ..⟩
 ·rcases ae.mp h with z|z
  ·omega
  ·have:=aO.mp z
   omega
theorem CL {lo hi:Nat} (a:Nat) (h1:lo<=hi):odd [(lo:Int),(hi:Int)+1] a=(decide (lo<=a)&&decide (a<=hi)):=by
 unfold odd cnt
 rw [List.countP_cons,List.countP_cons,List.countP_nil]
 rcases aZ a lo with z|z
 ·have e1:¬((lo:Int)<=a):=by omega
  have e2:¬((hi:Int)+1<=a):=by omega
  have e3:¬lo<=a:=by omega
  simp [e1,e2,e3]
 ·have e1:((lo:Int)<=a):=by omega
  rcases aZ hi a with y|y
  ·have e2:((hi:Int)+1<=a):=by omega
   have e3:¬a<=hi:=by omega
   simp [e1,e2,e3]
  ·have e2:¬((hi:Int)+1<=a):=by omega
   simp [e1,e2,y,z]
theorem dY.off {es:List Int} (E:dY es) {a:Int} (h:4294967296<=a):odd es a=false:=by
 unfold odd
 rw [yK fun x hx=>by have:=E.bnd x hx;omega,E.wB]
 rfl
theorem dY.made {es ts m:List Int} {yes:Bool} (E:dY es) (T:dY ts) (h1:Inc m) (h2:∀ x,x∈m->x∈es\/x∈ts) (h3:∀ a,odd m a=if odd ts a then yes else odd es a):dY m:=by
 refine ⟨h1,fun x hx => ?_,?_⟩
 ·rcases h2 x hx with z|z
  ·exact E.bnd x z
  ·exact T.bnd x z
 ·have q:=h3 4294967296
  rw [T.off (Int.le_refl _),E.off (Int.le_refl _)] at q
  have e:cnt m 4294967296=m.length:=yK fun x hx=>by
   rcases h2 x hx with z|z
   ·exact (E.bnd x z).2
   ·exact (T.bnd x z).2
  unfold odd at q
  rw [e] at q
  have:¬m.length%2=1:=by simpa using q
  omega
def bp:List Int->List (Nat×Nat)
 |a::b::l=>(a.toNat,(b-1).toNat)::bp l
 |_=>[]
theorem oY:∀ {l:List Int} {lo:Nat},Inc l->(∀ x,x∈l->(lo:Int)<=x)->Canon lo (bp l)
 | [],_,_,_=>trivial
 | [_],_,_,_=>trivial
 |a::b::l,lo,h,hb=>by
  rw [Inc,aR] at h
  obtain ⟨h1,h2⟩:=h
  rw [aR] at h2
  obtain ⟨h2,h3⟩:=h2
  have hab:=h1 b (by simp)
  have ha:=hb a (by simp)
  refine ⟨by show lo<=a.toNat;omega,by show a.toNat<=(b-1).toNat;omega,oY h3 fun x hx => ?_⟩
  have:=h2 x hx
  show (((b-1).toNat+2:Nat):Int)<=x
  omega
theorem CJ:∀ {l:List Int} {n:Nat},Inc l->l.length%2=0->(∀ x,x∈l->0<=x)->(gN (bp l) n↔odd l n=true)
 | [],n,_,_,_=>by
  constructor
  ·intro h
   exact (o5 h).elim
  ·intro h
   simp [odd,cnt] at h
 | [_],_,_,h,_=>by simp at h
 |a::b::l,n,h,he,hb=>by
  have h0:=h
  rw [Inc,aR] at h
  obtain ⟨h1,h2⟩:=h
  rw [aR] at h2
  obtain ⟨h2,h3⟩:=h2
  have hab:=h1 b (by simp)
  have ha:=hb a (by simp)
  have ih:=CJ (n:=n) h3 (by simp at he;omega) fun x hx=>hb x (by simp [hx])
  have ec:odd (a::b::l) n=((cnt l n+(if b<=(n:Int) then 1 else 0)+(if a<=(n:Int) then 1 else 0))%2==1):=by
   unfold odd cnt
   rw [List.countP_cons,List.countP_cons]
   simp
  show gN ((a.toNat,(b-1).toNat)::bp l) n↔_
  rw [bz,ec]
  by_cases z1:a<=(n:Int)
  ·by_cases z2:b<=(n:Int)
   ·have e1:¬(a.toNat<=n/\n<=(b-1).toNat):=by omega
    rw [if_pos z2,if_pos z1]
    constructor
    ·rintro (q|q)
     ·exact (e1 q).elim
     ·have:=ih.mp q
      unfold odd at this
      have:cnt l n%2=1:=by simpa using this
      have:(cnt l n+1+1)%2=1:=by omega
      simpa using this
    ·intro q
     have q:(cnt l n+1+1)%2=1:=by simpa using q
     refine .inr (ih.mpr ?_)
     unfold odd
     have:cnt l n%2=1:=by omega
     simpa using this
   ·have e0:cnt l n=0:=cnt_none fun x hx=>by have:=h2 x hx;omega
    rw [if_neg z2,if_pos z1,e0]
    constructor
    ·intro _
     rfl
    ·intro _
     exact .inl ⟨by show a.toNat<=n;omega,by show n<=(b-1).toNat;omega⟩
  ·have z2:¬b<=(n:Int):=by omega
   have e0:cnt l n=0:=cnt_none fun x hx=>by have:=h2 x hx;omega
   rw [if_neg z2,if_neg z1,e0]
   constructor
   ·rintro (⟨q,_⟩|q)
    ·have q:a.toNat<=n:=q
     omega
    ·have:=ih.mp q
     unfold odd at this
     rw [e0] at this
     simp at this
   ·intro q
    simp at q
theorem gq {gs:List Group} {id:Nat} {es:List Int} (E:dY es) (h:∀ a:Nat,a<ALL->odd es a=isIn gs id a):runsOf gs id=bp es:=by
 refine JD (oY E.inc fun x hx=>(E.bnd x hx).1) fun a => ?_
 rw [CJ E.inc E.wB fun x hx=>(E.bnd x hx).1]
 constructor
 ·intro q
  rcases aZ a ALL with z|z
  ·exact ⟨z,by rw [<-h a z];exact q⟩
  ·have z:4294967296<=a:=z
   rw [E.off (by omega)] at q
   cases q
 ·rintro ⟨z,q⟩
  rw [h a z]
  exact q
theorem f7:∀ {l:List Int},l.length%2=0->2*(bp l).length=l.length
 | [],_=>rfl
 | [_],h=>by simp at h
 |a::b::l,h=>by
  have:=f7 (l:=l) (by simp at h;omega)
  show 2*((bp l).length+1)=l.length+1+1
  omega
theorem oX:∀ {l:List Int} {i:Nat} {a b:Int},l[2*i]? = some a->l[2*i+1]? = some b->(bp l)[i]? = some (a.toNat,(b-1).toNat)
 | [],i,a,b,h,_=>by simp at h
 | [x],i,a,b,_,h=>by simp at h
 |x::y::l,0,a,b,h,h'=>by
  have e1:x=a:=by simpa using h
  have e2:y=b:=by simpa using h'
  subst e1 e2
  rfl
 |x::y::l,i+1,a,b,h,h'=>by
  have e1:2*(i+1)=2*i+2:=by omega
  have e2:2*(i+1)+1=2*i+1+2:=by omega
  rw [e1] at h
  rw [e2] at h'
  have:=oX (l:=l) (i:=i) (a:=a) (b:=b) (by simpa using h) (by simpa using h')
  show (bp l)[i]? = _
  exact this
def gP (l:List (Nat×Nat)):List Int:=l.flatMap fun p=>[(p.1:Int),(p.2:Int)]
theorem HD (l:List (Nat×Nat)) (p:Nat×Nat):gP (l++[p])=gP l++[(p.1:Int),(p.2:Int)]:=by
 unfold gP
 rw [da,dh,List.flatMap_nil,cS]
theorem wA (l:List (Nat×Nat)):(gP l).length=2*l.length:=by
 unfold gP
 rw [jf _ 2 fun _ _=>rfl]
 omega
theorem Cy:∀ (l:List (Nat×Nat)) (n:Nat),l.foldl (fun n p=>n+(p.2+1-p.1)) n=n+(l.map fun p=>p.2+1-p.1).sum
 | [],n=>by simp
 |p::l,n=>by
  rw [ef,Cy l,aW,List.sum_cons]
  omega
def iD (before:List (Nat×Bool)) (a:Nat):Part->Bool
 |.add lo hi=>decide (lo<=a)&&decide (a<=hi)
 |.sub lo hi=>decide (lo<=a)&&decide (a<=hi)
 |.with_ g=>before.any fun x=>x.1==g&&x.2
 |.but g=>before.any fun x=>x.1==g&&x.2
def oC:Part->Bool
 |.add _ _=>true
 |.sub _ _=>false
 |.with_ _=>true
 |.but _=>false
theorem uV (before:List (Nat×Bool)) (a:Nat) (l:List Part) (p:Part):inParts before a (l++[p])=if iD before a p then oC p else inParts before a l:=by
 unfold inParts
 rw [List.foldl_append,ef,List.foldl_nil]
 generalize List.foldl _ false l=b
 cases p with
 |add lo hi =>
  show (b || iD before a (.add lo hi))=if iD before a (.add lo hi) then true else b
  cases iD before a (.add lo hi)<;>simp
 |sub lo hi =>
  show (b && !iD before a (.sub lo hi))=if iD before a (.sub lo hi) then false else b
  cases iD before a (.sub lo hi)<;>simp
 |with_ g =>
  show (b || iD before a (.with_ g))=if iD before a (.with_ g) then true else b
  cases iD before a (.with_ g)<;>simp
 |but g =>
  show (b && !iD before a (.but g))=if iD before a (.but g) then false else b
  cases iD before a (.but g)<;>simp
theorem uU:∀ {l t:List Int},Inc l->(∀ x,x∈l->x∈t)->l.length<=t.length
 | [],t,_,_=>aT _
 |x::l,t,h,hs=>by
  rw [Inc,aR] at h
  have hx:x∈t:=hs x (ae.mpr (.inl rfl))
  have:=uU (l:=l) (t:=t.erase x) h.2 fun y hy=>by
   have hne:y≠x:=fun e=>by have:=h.1 y hy;omega
   exact (List.mem_erase_of_ne hne).mpr (hs y (ae.mpr (.inr hy)))
  rw [List.length_erase_of_mem hx] at this
  have:=List.length_pos_of_mem hx
  simp
  omega
end Mt
namespace Mt
open Vbcnan
structure PC where
 n:Int
 xs:List Int
 ps:List Int
def rawOf (c:PC):List (List Int):=if c.n=1 then [c.n::c.xs,c.ps] else [c.n::c.xs]
def yQ:List Nat:=[1,1,1,7,1,2,1,2,1,1,3,2,2,4,0,1,4,0]
theorem KN {p:Int} {n k:Nat} (h:PyVbcnan.shape p=some (n,k)):0<=p/\p<=17/\yQ[p.toNat]? = some n/\k=if p=1 then 1 else 0:=by
 unfold PyVbcnan.shape at h
 by_cases h0:p=0
 ·subst h0;simp at h;obtain ⟨rfl,rfl⟩:=h;decide
 rw [if_neg h0] at h
 by_cases h1:p=1
 ·subst h1;simp at h;obtain ⟨rfl,rfl⟩:=h;decide
 rw [if_neg h1] at h
 by_cases h2:p=2
 ·subst h2;simp at h;obtain ⟨rfl,rfl⟩:=h;decide
 rw [if_neg h2] at h
 by_cases h3:p=3
 ·subst h3;simp at h;obtain ⟨rfl,rfl⟩:=h;decide
 rw [if_neg h3] at h
 by_cases h4:p=4
 ·subst h4;simp at h;obtain ⟨rfl,rfl⟩:=h;decide
 rw [if_neg h4] at h
 by_cases h5:p=5
 ·subst h5;simp at h;obtain ⟨rfl,rfl⟩:=h;decide
 rw [if_neg h5] at h
 by_cases h6:p=6
 ·subst h6;simp at h;obtain ⟨rfl,rfl⟩:=h;decide
 rw [if_neg h6] at h
 by_cases h7:p=7
 ·subst h7;simp at h;obtain ⟨rfl,rfl⟩:=h;decide
 rw [if_neg h7] at h
 by_cases h8:p=8
 ·subst h8;simp at h;obtain ⟨rfl,rfl⟩:=h;decide
 rw [if_neg h8] at h
 by_cases h9:p=9
 ·subst h9;simp at h;obtain ⟨rfl,rfl⟩:=h;decide
 rw [if_neg h9] at h
 by_cases h10:p=10
 ·subst h10;simp at h;obtain ⟨rfl,rfl⟩:=h;decide
 rw [if_neg h10] at h
 by_cases h11:p=11
 ·subst h11;simp at h;obtain ⟨rfl,rfl⟩:=h;decide
 rw [if_neg h11] at h
 by_cases h12:p=12
 ·subst h12;simp at h;obtain ⟨rfl,rfl⟩:=h;decide
 rw [if_neg h12] at h
 by_cases h13:p=13
 ·subst h13;simp at h;obtain ⟨rfl,rfl⟩:=h;decide
 rw [if_neg h13] at h
 by_cases h14:p=14
 ·subst h14;simp at h;obtain ⟨rfl,rfl⟩:=h;decide
 rw [if_neg h14] at h
 by_cases h15:p=15
 ·subst h15;simp at h;obtain ⟨rfl,rfl⟩:=h;decide
 rw [if_neg h15] at h
 by_cases h16:p=16
 ·subst h16;simp at h;obtain ⟨rfl,rfl⟩:=h;decide
 rw [if_neg h16] at h
 by_cases h17:p=17
 ·subst h17;simp at h;obtain ⟨rfl,rfl⟩:=h;decide
 rw [if_neg h17] at h
 cases h
structure At (l:List Int) (i:Nat) (c:PC) (i':Nat):Prop where
 n:l[i]? = some c.n
 lo:0<=c.n
 hi:c.n<=17
 w:yQ[c.n.toNat]? = some c.xs.length
 xs:c.xs=(l.drop (i+1)).take c.xs.length
 fit:i+1+c.xs.length<=l.length
 no:c.n≠1->c.ps=[]/\i'=i+1+c.xs.length
 cnt:c.n=1->l[i+1+c.xs.length]? = some (c.ps.length:Int)/\c.ps=(l.drop (i+1+c.xs.length+1)).take c.ps.length/\i'=i+1+c.xs.length+1+c.ps.length
 le:i'<=l.length
theorem NG {l:List Int} {i:Nat} {p:Int} {r:List Int} {c:List (List Int)} {t:List Int} (hl:l.drop i=p::r) (h:PyFlat.call PyVbcnan.shape (p::r)=some (c,t)):∃ (q:PC) (i':Nat),c=rawOf q/\At l i q i'/\l.drop i'=t:=by
 have hil:i<l.length:=by
  rcases aZ i l.length with z|z
  ·exact z
  ·rw [c7 z] at hl
   cases hl
 have hd:=bq hil
 rw [hl] at hd
 obtain ⟨e1,e2⟩:=List.cons.inj hd
 have hp:l[i]? = some p:=by rw [aC hil,e1]
 have hlen:r.length=l.length-(i+1):=by rw [e2,iz]
 have h:(match PyVbcnan.shape p with
  |none=>none
  |some (n,k)=>if r.length<n then none else match PyFlat.rows k (r.drop n) with
   |none=>none
   |some (xs,t)=>some ((p::r.take n)::xs,t))=some (c,t):=h
 cases hs:PyVbcnan.shape p with
 |none =>
  rw [hs] at h
  cases h
 |some nk =>
  obtain ⟨n,k⟩:=nk
  rw [hs] at h
  obtain ⟨s1,s2,s3,s4⟩:=KN hs
  have h:(if r.length<n then none else match PyFlat.rows k (r.drop n) with
   |none=>none
   |some (xs,t)=>some ((p::r.take n)::xs,t))=some (c,t):=h
  by_cases hn:r.length<n
  ·rw [if_pos hn] at h
   cases h
  ·rw [if_neg hn] at h
   have hxl:(r.take n).length=n:=by rw [bL];omega
   by_cases hp1:p=1
   ·rw [if_pos hp1] at s4
    subst s4
    have hr:PyFlat.rows 1 (r.drop n)=match PyFlat.row (r.drop n) with
     |none=>none
     |some (x,s)=>some ([x],s):=rfl
    rw [hr] at h
    cases hdn:r.drop n with
    |nil =>
     rw [hdn] at h
     cases h
    |cons cnt r' =>
     rw [hdn] at h
     have Nm:PyFlat.row (cnt::r')=if 0<=cnt/\cnt.toNat<=r'.length then some (r'.take cnt.toNat,r'.drop cnt.toNat) else none:=rfl
     rw [Nm] at h
     by_cases hc:0<=cnt/\cnt.toNat<=r'.length
     ·rw [if_pos hc] at h
      have h:some ((p::r.take n)::[r'.take cnt.toNat],r'.drop cnt.toNat)=some (c,t):=h
      obtain ⟨h1,h2⟩:=Prod.mk.inj (ax h)
      have hdl:(r.drop n).length=r'.length+1:=by rw [hdn];rfl
      rw [iz] at hdl
      have hpl:(r'.take cnt.toNat).length=cnt.toNat:=by rw [bL];omega
      have hr2:r'=l.drop (i+1+n+1):=by
       have:(r.drop n).drop 1=r':=by rw [hdn];rfl
       rw [<-this,e2,oj,oj]
       congr 1
      refine ⟨⟨p,r.take n,r'.take cnt.toNat⟩,i+1+n+1+cnt.toNat,?_,⟨hp,s1,s2,by rw [hxl];exact s3,?_,by rw [hxl];omega,fun q=>absurd hp1 q,fun _=>⟨?_,?_,by rw [hxl,hpl]⟩,by omega⟩,?_⟩
      ·rw [<-h1]
       unfold rawOf
       rw [if_pos (show (⟨p,r.take n,r'.take cnt.toNat⟩:PC).n=1 from hp1)]
      ·show r.take n=(l.drop (i+1)).take (r.take n).length
       rw [hxl,<-e2]
      ·show l[i+1+(r.take n).length]? = some (((r'.take cnt.toNat).length:Nat):Int)
       rw [hxl,hpl]
       have:(r.drop n)[0]? = some cnt:=by rw [hdn];rfl
       rw [e2,oj,List.getElem?_drop] at this
       rw [cM] at this
       rw [this]
       congr 1
       omega
      ·show r'.take cnt.toNat=(l.drop (i+1+(r.take n).length+1)).take (r'.take cnt.toNat).length
       rw [hxl,hpl,<-hr2]
      ·rw [<-h2,hr2,oj]
     ·rw [if_neg hc] at h
      cases h
   ·rw [if_neg hp1] at s4
    subst s4
    have h:some ((p::r.take n)::[],r.drop n)=some (c,t):=h
    obtain ⟨h1,h2⟩:=Prod.mk.inj (ax h)
    refine ⟨⟨p,r.take n,[]⟩,i+1+n,?_,⟨hp,s1,s2,by rw [hxl];exact s3,?_,by rw [hxl];omega,fun _=>⟨rfl,by rw [hxl]⟩,fun q=>absurd q hp1,by omega⟩,?_⟩
    ·rw [<-h1]
     unfold rawOf
     rw [if_neg (show ¬(⟨p,r.take n,[]⟩:PC).n=1 from hp1)]
    ·show r.take n=(l.drop (i+1)).take (r.take n).length
     rw [hxl,<-e2]
    ·rw [<-h2,e2,oj]
inductive GB (l:List Int):Nat->List PC->Prop
 |done {i:Nat}:l.length<=i->GB l i []
 |call {i i':Nat} {c:PC} {cs:List PC}:At l i c i'->i<i'->GB l i' cs->GB l i (c::cs)
theorem At.lt {l:List Int} {i i':Nat} {c:PC} (a:At l i c i'):i<i':=by
 by_cases h:c.n=1
 ·have:=(a.cnt h).2.2
  omega
 ·have:=(a.no h).2
  omega
theorem Ad {l:List Int}:∀ (f i:Nat) (cs:List (List (List Int))),PyFlat.calls PyVbcnan.shape f (l.drop i)=some cs->∃ qs,cs=qs.map rawOf/\GB l i qs
 |f,i,cs,h=>by
  cases hd:l.drop i with
  |nil =>
   rw [hd] at h
   have e:PyFlat.calls PyVbcnan.shape f []=some []:=by cases f<;>rfl
   rw [e] at h
   have:=ax h
   subst this
   exact ⟨[],rfl,.done (pV.mp hd)⟩
  |cons p r =>
   rw [hd] at h
   cases f with
   |zero=>cases h
   |succ f =>
    have h:(match PyFlat.call PyVbcnan.shape (p::r) with
     |none=>none
     |some (c,t)=>match PyFlat.calls PyVbcnan.shape f t with
      |none=>none
      |some cs=>some (c::cs))=some cs:=h
    cases hc:PyFlat.call PyVbcnan.shape (p::r) with
    |none =>
     rw [hc] at h
     cases h
    |some ct =>
     obtain ⟨c,t⟩:=ct
     rw [hc] at h
     have h:(match PyFlat.calls PyVbcnan.shape f t with
      |none=>none
      |some cs=>some (c::cs))=some cs:=h
     obtain ⟨q,i',e1,a,e2⟩:=NG hd hc
     cases hr:PyFlat.calls PyVbcnan.shape f t with
     |none =>
      rw [hr] at h
      cases h
     |some cs' =>
      rw [hr] at h
      have e3:=ax h
      rw [<-e2] at hr
      obtain ⟨qs,e4,fr⟩:=Ad f i' cs' hr
      exact ⟨q::qs,by rw [<-e3,e1,e4];rfl,.call a a.lt fr⟩
end Mt
namespace Mt
open Vbcnan
def qU (gs:List Group) (id:Nat):Part->Prop
 |.add lo hi=>lo<=hi/\hi<ALL
 |.sub lo hi=>lo<=hi/\hi<ALL
 |.with_ g=>g<id/\∃ x,x∈gs/\x.id=g
 |.but g=>g<id/\∃ x,x∈gs/\x.id=g
structure WfG (gs:List Group):Prop where
 inc:(gs.map (·.id)).Pairwise (· < ·)
 bnd:∀ g,g∈gs->g.id<=15
 few:∀ g,g∈gs->g.parts.length<=16
 ok:∀ g,g∈gs->∀ p,p∈g.parts->qU gs g.id p
theorem Hr (gs:List Group) (g:Group) (z:Nat):inAll (gs++[g]) z=inAll gs z++[(g.id,inParts (inAll gs z) z g.parts)]:=by
 unfold inAll
 rw [List.foldl_append,ef,List.foldl_nil]
theorem J0 (z:Nat):∀ (gs:List Group),(inAll gs z).map (·.1)=gs.map (·.id):=by
 intro gs
 have key:∀ (gs:List Group) (acc:List (Nat×Bool)),(gs.foldl (fun l g=>l++[(g.id,inParts l z g.parts)]) acc).map (·.1)=acc.map (·.1)++gs.map (·.id):=by
  intro gs
  induction gs with
  |nil=>intro acc;simp
  |cons g gs ih =>
   intro acc
   rw [ef,ih]
   simp
 have:=key gs []
 simpa [inAll] using this
theorem CU (z:Nat):∀ (gs hs:List Group),∃ more,inAll (gs++hs) z=inAll gs z++more/\more.map (·.1)=hs.map (·.id):=by
 intro gs hs
 have key:∀ (hs:List Group) (acc:List (Nat×Bool)),∃ more,hs.foldl (fun l g=>l++[(g.id,inParts l z g.parts)]) acc=acc++more/\more.map (·.1)=hs.map (·.id):=by
  intro hs
  induction hs with
  |nil=>intro acc;exact ⟨[],by simp,rfl⟩
  |cons h hs ih =>
   intro acc
   obtain ⟨more,e1,e2⟩:=ih (acc++[(h.id,inParts acc z h.parts)])
   refine ⟨(h.id,inParts acc z h.parts)::more,?_,?_⟩
   ·rw [ef,e1,di]
    rfl
   ·rw [aW,aW,e2]
 obtain ⟨more,e1,e2⟩:=key hs (inAll gs z)
 refine ⟨more,?_,e2⟩
 unfold inAll at e1 ⊢
 rw [List.foldl_append]
 exact e1
theorem any_none {l:List (Nat×Bool)} {g:Nat} (h:∀ x,x∈l.map (·.1)->x≠g):(l.any fun x=>x.1==g&&x.2)=false:=by
 rw [jJ]
 intro x hx q
 rw [aE,beq_iff_eq] at q
 exact h x.1 (bx.mpr ⟨x,hx,rfl⟩) q.1
theorem zU {gs:List Group} (h:(gs.map (·.id)).Pairwise (· < ·)) {i:Nat} {g:Group} (hi:gs[i]? = some g):(∀ x,x∈(gs.take i).map (·.id)->x<g.id)/\(∀ x,x∈(gs.drop (i+1)).map (·.id)->g.id<x):=by
 obtain ⟨hlt,rfl⟩:=ak.mp hi
 have e:gs.take i++gs[i]::gs.drop (i+1)=gs:=by rw [<-bq hlt,gd]
 have p:((gs.take i++gs[i]::gs.drop (i+1)).map (·.id)).Pairwise (· < ·):=by rw [e];exact h
 rw [bt,List.pairwise_append,aW,aR] at p
 exact ⟨fun x hx=>p.2.2 x hx _ (ae.mpr (.inl rfl)),p.2.1.1⟩
theorem IL {gs:List Group} (h:(gs.map (·.id)).Pairwise (· < ·)) {i:Nat} {g:Group} (hi:gs[i]? = some g) (z:Nat):isIn gs g.id z=inParts (inAll (gs.take i) z) z g.parts:=by
 obtain ⟨h1,h2⟩:=zU h hi
 have hlt:=(ak.mp hi).1
 have e:gs=(gs.take i++[g])++gs.drop (i+1):=by
  have:=(ak.mp hi).2
  rw [di]
  show gs=gs.take i++g::gs.drop (i+1)
  rw [<-this,<-bq hlt,gd]
 obtain ⟨more,e1,e2⟩:=CU z (gs.take i++[g]) (gs.drop (i+1))
 rw [<-e] at e1
 unfold isIn
 rw [e1,Hr,List.any_append,List.any_append]
 rw [any_none (l:=inAll (gs.take i) z) fun x hx => ?_,any_none (l:=more) fun x hx => ?_]
 ·simp
 ·rw [e2] at hx
  have:=h2 x hx
  omega
 ·rw [J0] at hx
  have:=h1 x hx
  omega
theorem rp {gs:List Group} (h:(gs.map (·.id)).Pairwise (· < ·)) {i:Nat} {g:Nat} (hb:∀ x,x∈(gs.drop i).map (·.id)->x≠g) (z:Nat):((inAll (gs.take i) z).any fun x=>x.1==g&&x.2)=isIn gs g z:=by
 obtain ⟨more,e1,e2⟩:=CU z (gs.take i) (gs.drop i)
 rw [gd] at e1
 unfold isIn
 rw [e1,List.any_append,any_none (l:=more) fun x hx=>by rw [e2] at hx;exact hb x hx]
 simp
theorem mB {α β : Type} {f : α -> List β} {n:Nat}:∀ {l:List α},(∀ x,x∈l->(f x).length<=n)->(l.flatMap f).length<=l.length*n
 | [],_=>by simp
 |x::l,h=>by
  rw [dh,aG,bM,Nat.succ_mul]
  have:=h x (ae.mpr (.inl rfl))
  have:=mB (l:=l) fun y hy=>h y (ae.mpr (.inr hy))
  omega
theorem xw:∀ {l:List Nat} {b n:Nat},l.Pairwise (· < ·)->(∀ x,x∈l->b<=x/\x<b+n)->l.length<=n
 | [],_,_,_,_=>by simp
 |x::l,b,n,h,hb=>by
  rw [aR] at h
  have hx:=hb x (ae.mpr (.inl rfl))
  have:=xw (l:=l) (b:=x+1) (n:=b+n-(x+1)) h.2 fun y hy=>by
   have h1:=h.1 y hy
   have h2:=hb y (ae.mpr (.inr hy))
   omega
  simp
  omega
theorem WfG.len {gs:List Group} (w:WfG gs):gs.length<=16:=by
 have:=xw (b:=0) (n:=16) w.inc fun x hx=>by
  obtain ⟨g,hg,e⟩:=bx.mp hx
  have:=w.bnd g hg
  omega
 rw [ab] at this
 exact this
theorem WfG.marks {gs:List Group} (w:WfG gs):(marks gs).length<=512:=by
 unfold Mt.marks
 refine bB (mB (n:=32) fun g hg => ?_) ?_
 ·refine bB (mB (n:=2) fun p _ => ?_) ?_
  ·cases p<;>simp
  ·have:=w.few g hg
   omega
 ·have:=w.len
  omega
end Mt
namespace Mt
open Vbcnan
theorem eA {x:Group}:∀ {gs:List Group},(gs.map (·.id)).Pairwise (· < ·)->∀ y,y∈putGroup x gs↔y=x\/(y∈gs/\y.id≠x.id)
 | [],_,y=>by simp [putGroup]
 |g::gs,h,y=>by
  rw [aW,aR] at h
  have hgt:∀ z,z∈gs->g.id<z.id:=fun z hz=>h.1 z.id (bx.mpr ⟨z,hz,rfl⟩)
  unfold putGroup
  by_cases e:x.id=g.id
  ·rw [if_pos e,ae,ae]
   constructor
   ·rintro (q|q)
    ·exact .inl q
    ·have:=hgt y q
     exact .inr ⟨.inr q,by omega⟩
   ·rintro (q|⟨q|q,r⟩)
    ·exact .inl q
    ·rw [q] at r
     exact (r e.symm).elim
    ·exact .inr q
  ·rw [if_neg e]
   by_cases e2:x.id<g.id
   ·rw [if_pos e2,ae,ae]
    constructor
    ·rintro (q|q|q)
     ·exact .inl q
     ·rw [q]
      exact .inr ⟨.inl rfl,by omega⟩
     ·have:=hgt y q
      exact .inr ⟨.inr q,by omega⟩
    ·rintro (q|⟨q,r⟩)
     ·exact .inl q
     ·exact .inr q
   ·rw [if_neg e2,ae,eA h.2,ae]
    constructor
    ·rintro (q|q|⟨q,r⟩)
     ·rw [q]
      exact .inr ⟨.inl rfl,by omega⟩
     ·exact .inl q
     ·exact .inr ⟨.inr q,r⟩
    ·rintro (q|⟨q|q,r⟩)
     ·exact .inr (.inl q)
     ·exact .inl q
     ·exact .inr (.inr ⟨q,r⟩)
theorem uN {x:Group}:∀ {gs:List Group},(gs.map (·.id)).Pairwise (· < ·)->((putGroup x gs).map (·.id)).Pairwise (· < ·)
 | [],_=>by simp [putGroup]
 |g::gs,h=>by
  have h0:=h
  rw [aW,aR] at h
  have hgt:∀ z,z∈gs->g.id<z.id:=fun z hz=>h.1 z.id (bx.mpr ⟨z,hz,rfl⟩)
  unfold putGroup
  by_cases e:x.id=g.id
  ·rw [if_pos e,aW,aR,e]
   exact h
  ·rw [if_neg e]
   by_cases e2:x.id<g.id
   ·rw [if_pos e2,aW,aR]
    refine ⟨fun z hz => ?_,h0⟩
    rw [aW,ae] at hz
    rcases hz with q|q
    ·omega
    ·have:=h.1 z q
     omega
   ·rw [if_neg e2,aW,aR]
    refine ⟨fun z hz => ?_,uN h.2⟩
    obtain ⟨y,hy,rfl⟩:=bx.mp hz
    rcases (eA h.2 y).mp hy with q|q
    ·rw [q]
     omega
    ·exact hgt y q.1
theorem qU.sub {gs hs:List Group} {id:Nat} {p:Part} (h:qU gs id p) (hk:∀ x,x∈gs->∃ y,y∈hs/\y.id=x.id):qU hs id p:=by
 cases p with
 |add lo hi=>exact h
 |sub lo hi=>exact h
 |with_ g =>
  obtain ⟨h1,x,h2,h3⟩:=h
  obtain ⟨y,h4,h5⟩:=hk x h2
  exact ⟨h1,y,h4,h5.trans h3⟩
 |but g =>
  obtain ⟨h1,x,h2,h3⟩:=h
  obtain ⟨y,h4,h5⟩:=hk x h2
  exact ⟨h1,y,h4,h5.trans h3⟩
theorem uM {x:Group} {gs:List Group} (h:(gs.map (·.id)).Pairwise (· < ·)):∀ z,z∈gs->∃ y,y∈putGroup x gs/\y.id=z.id:=fun z hz=>by
 by_cases e:z.id=x.id
 ·exact ⟨x,(eA h x).mpr (.inl rfl),e.symm⟩
 ·exact ⟨z,(eA h z).mpr (.inr ⟨hz,e⟩),rfl⟩
theorem WfG.put {gs:List Group} (w:WfG gs) {x:Group} (h1:x.id<=15) (h2:x.parts.length<=16) (h3:∀ p,p∈x.parts->qU gs x.id p):WfG (putGroup x gs):=by
 refine ⟨uN w.inc,fun g hg => ?_,fun g hg => ?_,fun g hg p hp => ?_⟩
 ·rcases (eA w.inc g).mp hg with q|q
  ·rw [q];exact h1
  ·exact w.bnd g q.1
 ·rcases (eA w.inc g).mp hg with q|q
  ·rw [q];exact h2
  ·exact w.few g q.1
 ·rcases (eA w.inc g).mp hg with q|q
  ·subst q
   exact (h3 p hp).sub (uM w.inc)
  ·exact (w.ok g q.1 p hp).sub (uM w.inc)
theorem HE {gs:List Group} (f:Group->Bool) (h:(gs.map (·.id)).Pairwise (· < ·)):((gs.filter f).map (·.id)).Pairwise (· < ·) :=
 List.Pairwise.sublist (List.Sublist.map _ List.filter_sublist) h
theorem WfG.drop {gs:List Group} (w:WfG gs) {id:Nat} (h:(gs.any fun g=>refers id g.parts)=false):WfG (gs.filter fun g=>g.id != id):=by
 have hm:∀ g,g∈(gs.filter fun g=>g.id != id)↔g∈gs/\g.id≠id:=fun g=>by rw [fz,bne_iff_ne]
 have hr:∀ g,g∈gs->∀ p,p∈g.parts->p ≠ .with_ id/\p ≠ .but id:=fun g hg p hp=>by
  rw [jJ] at h
  have q:refers id g.parts=false:=by simpa using h g hg
  unfold refers at q
  rw [jJ] at q
  have q:=q p hp
  constructor
  ·intro e
   subst e
   simp at q
  ·intro e
   subst e
   simp at q
 refine ⟨HE _ w.inc,fun g hg=>w.bnd g ((hm g).mp hg).1,fun g hg=>w.few g ((hm g).mp hg).1,fun g hg p hp => ?_⟩
 have hg':=((hm g).mp hg).1
 have o:=w.ok g hg' p hp
 have r:=hr g hg' p hp
 cases p with
 |add lo hi=>exact o
 |sub lo hi=>exact o
 |with_ k =>
  obtain ⟨o1,x,o2,o3⟩:=o
  refine ⟨o1,x,(hm x).mpr ⟨o2,fun e=>r.1 ?_⟩,o3⟩
  rw [<-o3,e]
 |but k =>
  obtain ⟨o1,x,o2,o3⟩:=o
  refine ⟨o1,x,(hm x).mpr ⟨o2,fun e=>r.2 ?_⟩,o3⟩
  rw [<-o3,e]
theorem xq:∀ {l m:List Int},l.Pairwise (· <= ·)->m.Pairwise (· < ·)->l.Perm m->l=m
 | [],m,_,_,p=>(List.Perm.nil_eq p)
 |x::l,[],_,_,p=>absurd p (by simp)
 |x::l,y::m,h1,h2,p=>by
  rw [aR] at h1 h2
  have hx:x=y:=by
   have a:x∈y::m:=p.mem_iff.mp (ae.mpr (.inl rfl))
   have b:y∈x::l:=p.mem_iff.mpr (ae.mpr (.inl rfl))
   rcases ae.mp a with e|e
   ·exact e
   ·rcases ae.mp b with e2|e2
    ·exact e2.symm
    ·have:=h2.1 x e
     have:=h1.1 y e2
     omega
  subst hx
  rw [xq h1.2 h2.2 (List.Perm.cons_inv p)]
theorem fg {s:State} (w:WfG s.groups) (n:Int):known s n=true↔∃ g,g∈s.groups/\(g.id:Int)=n:=by
 unfold known isId within
 rw [aE,pO]
 constructor
 ·rintro ⟨_,g,hg,e⟩
  exact ⟨g,hg,beq_iff_eq.mp e⟩
 ·rintro ⟨g,hg,e⟩
  have:=w.bnd g hg
  refine ⟨?_,g,hg,beq_iff_eq.mpr e⟩
  rw [aE,decide_eq_true_iff,decide_eq_true_iff]
  omega
end Mt
namespace Mt
open Vbcnan
def kD (s:State) (id:Int):List Int->Int
 | [k,a,b]=>if k=0\/k=1 then (if 0<=a/\a<=b/\b<=4294967295 then 0 else -2) else if k=2\/k=3 then (if b≠0 then -2 else if known s a=true/\a<id then 0 else -3) else -2
 |_=>-2
def oW (k a b:Int):Part:=if k=0 then .add a.toNat b.toNat else if k=1 then .sub a.toNat b.toNat else if k=2 then .with_ a.toNat else .but a.toNat
theorem CI (s:State) (id k a b:Int) (l:List Int):partsOf s id (k::a::b::l)=if kD s id [k,a,b]<0 then .error (kD s id [k,a,b]) else match partsOf s id l with
 |.ok r=>.ok (oW k a b::r)
 |.error e=>.error e:=by
 have e0:partsOf s id (k::a::b::l)=if k=0\/k=1 then
  (if (isAddr a&&(isAddr b&&decide (a<=b)))=false then .error (-2)
   else match partsOf s id l with
    |.ok r=>.ok ((if k=0 then .add a.toNat b.toNat else .sub a.toNat b.toNat)::r)
    |.error e=>.error e)
  else if k=2\/k=3 then
   (if b≠0 then .error (-2)
    else if (known s a&&decide (a<id))=false then .error (-3)
    else match partsOf s id l with
     |.ok r=>.ok ((if k=2 then .with_ a.toNat else .but a.toNat)::r)
     |.error e=>.error e)
  else .error (-2):=by
  rw [partsOf]
  cases partsOf s id l<;>rfl
 rw [e0]
 show _=if (if k=0\/k=1 then (if 0<=a/\a<=b/\b<=4294967295 then 0 else -2) else if k=2\/k=3 then (if b≠0 then -2 else if known s a=true/\a<id then 0 else -3) else -2:Int)<0 then Except.error (if k=0\/k=1 then (if 0<=a/\a<=b/\b<=4294967295 then 0 else -2) else if k=2\/k=3 then (if b≠0 then -2 else if known s a=true/\a<id then 0 else -3) else -2:Int) else _
 by_cases h1:k=0\/k=1
 ·rw [if_pos h1,if_pos h1]
  have hc:((isAddr a&&(isAddr b&&decide (a<=b)))=false)↔¬(0<=a/\a<=b/\b<=4294967295):=by
   unfold isAddr within
   rw [<-pP,aE,aE,aE,aE,decide_eq_true_iff,decide_eq_true_iff,decide_eq_true_iff,decide_eq_true_iff,decide_eq_true_iff]
   constructor
   ·intro h q
    exact h ⟨⟨by omega,by omega⟩,⟨by omega,by omega⟩,by omega⟩
   ·intro h q
    exact h ⟨by omega,by omega,by omega⟩
  by_cases h2:0<=a/\a<=b/\b<=4294967295
  ·rw [if_neg (fun q=>hc.mp q h2),if_pos h2,if_neg (show ¬(0:Int)<0 by decide)]
   have:oW k a b=if k=0 then .add a.toNat b.toNat else .sub a.toNat b.toNat:=by
    unfold oW
    rcases h1 with rfl|rfl<;>simp
   rw [this]
  ·rw [if_pos (hc.mpr h2),if_neg h2,if_pos (by decide)]
 ·rw [if_neg h1,if_neg h1]
  by_cases h2:k=2\/k=3
  ·rw [if_pos h2,if_pos h2]
   by_cases h3:b≠0
   ·rw [if_pos h3,if_pos h3,if_pos (by decide)]
   ·rw [if_neg h3,if_neg h3]
    have hc:((known s a&&decide (a<id))=false)↔¬(known s a=true/\a<id):=by
     rw [<-pP,aE,decide_eq_true_iff]
    by_cases h4:known s a=true/\a<id
    ·rw [if_neg (fun q=>hc.mp q h4),if_pos h4,if_neg (show ¬(0:Int)<0 by decide)]
     have:oW k a b=if k=2 then .with_ a.toNat else .but a.toNat:=by
      unfold oW
      rcases h2 with rfl|rfl<;>simp
     rw [this]
    ·rw [if_pos (hc.mpr h4),if_neg h4,if_pos (by decide)]
  ·rw [if_neg h2,if_neg h2,if_pos (by decide)]
theorem JL {s:State} {id:Int} {l:List Int} (hne:l ≠ []) (h:kD s id (l.take 3)<0):partsOf s id l=.error (kD s id (l.take 3)):=by
 match l,hne with
 | [a],_=>rfl
 | [a,b],_=>rfl
 |k::a::b::r,_ =>
  have e:(k::a::b::r).take 3=[k,a,b]:=rfl
  rw [e] at h ⊢
  rw [CI,if_pos h]
theorem G9 {s:State} {id:Int} {l:List Int} (hne:l ≠ []) (h:¬kD s id (l.take 3)<0):∃ k a b r,l=k::a::b::r/\partsOf s id l=(match partsOf s id r with
 |.ok q=>.ok (oW k a b::q)
 |.error e=>.error e):=by
 match l,hne with
 | [a],_=>exact (h (by show (-2:Int)<0;decide)).elim
 | [a,b],_=>exact (h (by show (-2:Int)<0;decide)).elim
 |k::a::b::r,_ =>
  have e:(k::a::b::r).take 3=[k,a,b]:=rfl
  rw [e] at h
  exact ⟨k,a,b,r,rfl,by rw [CI,if_neg h]⟩
theorem JE {s:State} (w:WfG s.groups) {id k a b:Int} (hid:0<=id) (h:¬kD s id [k,a,b]<0):qU s.groups id.toNat (oW k a b) /\
 ((k=0/\0<=a/\0<=b)\/(k=1/\0<=a/\0<=b)\/(k=2/\0<=a/\b=0)\/(k=3/\0<=a/\b=0)):=by
 have h:¬(if k=0\/k=1 then (if 0<=a/\a<=b/\b<=4294967295 then 0 else -2) else if k=2\/k=3 then (if b≠0 then -2 else if known s a=true/\a<id then 0 else -3) else -2:Int)<0:=h
 by_cases h1:k=0\/k=1
 ·rw [if_pos h1] at h
  by_cases h2:0<=a/\a<=b/\b<=4294967295
  ·have hA:Vbcnan.ALL=4294967296:=rfl
   have o:a.toNat<=b.toNat/\b.toNat<ALL:=by omega
   rcases h1 with rfl|rfl
   ·exact ⟨o,.inl ⟨rfl,by omega,by omega⟩⟩
   ·exact ⟨o,.inr (.inl ⟨rfl,by omega,by omega⟩)⟩
  ·rw [if_neg h2] at h
   exact (h (by decide)).elim
 ·rw [if_neg h1] at h
  by_cases h2:k=2\/k=3
  ·rw [if_pos h2] at h
   by_cases h3:b≠0
   ·rw [if_pos h3] at h
    exact (h (by decide)).elim
   ·rw [if_neg h3] at h
    by_cases h4:known s a=true/\a<id
    ·obtain ⟨g,hg,e⟩:=(fg w a).mp h4.1
     have o:a.toNat<id.toNat/\∃ x,x∈s.groups/\x.id=a.toNat:=⟨by omega,g,hg,by omega⟩
     have hb:b=0:=by omega
     rcases h2 with rfl|rfl
     ·exact ⟨o,.inr (.inr (.inl ⟨rfl,by omega,hb⟩))⟩
     ·exact ⟨o,.inr (.inr (.inr ⟨rfl,by omega,hb⟩))⟩
    ·rw [if_neg h4] at h
     exact (h (by decide)).elim
  ·rw [if_neg h2] at h
   exact (h (by decide)).elim
end Mt
namespace Mt
open Vbcnan
inductive Kind (q:PC):Vbcnan.Call->Prop
 |begin_ (a:Int):q.n=0->q.xs=[a]->Kind q (.begin_ a)
 |group (a:Int):q.n=1->q.xs=[a]->Kind q (.group a q.ps)
 |nogroup (a:Int):q.n=2->q.xs=[a]->Kind q (.nogroup a)
 |rule (a b c d e f g:Int):q.n=3->q.xs=[a,b,c,d,e,f,g]->Kind q (.rule a b c d e f g)
 |norule (a:Int):q.n=4->q.xs=[a]->Kind q (.norule a)
 |move (a b:Int):q.n=5->q.xs=[a,b]->Kind q (.move a b)
 |runs (a:Int):q.n=6->q.xs=[a]->Kind q (.runs a)
 |member (a b:Int):q.n=7->q.xs=[a,b]->Kind q (.member a b)
 |size (a:Int):q.n=8->q.xs=[a]->Kind q (.size a)
 |blocks (a:Int):q.n=9->q.xs=[a]->Kind q (.blocks a)
 |cover (a b c:Int):q.n=10->q.xs=[a,b,c]->Kind q (.cover a b c)
 |same (a b:Int):q.n=11->q.xs=[a,b]->Kind q (.same a b)
 |inside (a b:Int):q.n=12->q.xs=[a,b]->Kind q (.inside a b)
 |ask (a b c d:Int):q.n=13->q.xs=[a,b,c,d]->Kind q (.ask a b c d)
 |rows:q.n=14->q.xs=[]->Kind q .rows
 |row (a:Int):q.n=15->q.xs=[a]->Kind q (.row a)
 |look (a b c d:Int):q.n=16->q.xs=[a,b,c,d]->Kind q (.look a b c d)
 |rules:q.n=17->q.xs=[]->Kind q .rules
theorem FU {l:List Int} (h:l.length=1):∃ a,l=[a]:=by
 match l,h with
 | [a],_=>exact ⟨a,rfl⟩
theorem Nd {l:List Int} (h:l.length=2):∃ a b,l=[a,b]:=by
 match l,h with
 | [a,b],_=>exact ⟨a,b,rfl⟩
theorem Sv {l:List Int} (h:l.length=3):∃ a b c,l=[a,b,c]:=by
 match l,h with
 | [a,b,c],_=>exact ⟨a,b,c,rfl⟩
theorem Ra {l:List Int} (h:l.length=4):∃ a b c d,l=[a,b,c,d]:=by
 match l,h with
 | [a,b,c,d],_=>exact ⟨a,b,c,d,rfl⟩
theorem Su {l:List Int} (h:l.length=7):∃ a b c d e f g,l=[a,b,c,d,e,f,g]:=by
 match l,h with
 | [a,b,c,d,e,f,g],_=>exact ⟨a,b,c,d,e,f,g,rfl⟩
theorem Ni {l:List Int} {i i':Nat} {q:PC} (h:At l i q i'):∃ c,Kind q c/\VbcnanNeutral.call (PyVbcnan.whole (rawOf q))=some c:=by
 obtain ⟨n,xs,ps⟩:=q
 have h0:0<=n:=h.lo
 have h17:n<=17:=h.hi
 have hw:yQ[n.toNat]? = some xs.length:=h.w
 have hn:n=0\/n=1\/n=2\/n=3\/n=4\/n=5\/n=6\/n=7\/n=8\/n=9\/n=10\/n=11\/n=12\/n=13\/n=14\/n=15\/n=16\/n=17:=by omega
 rcases hn with rfl|rfl|rfl|rfl|rfl|rfl|rfl|rfl|rfl|rfl|rfl|rfl|rfl|rfl|rfl|rfl|rfl|rfl
 ·obtain ⟨a,rfl⟩:=FU (ax hw).symm
  exact ⟨_,.begin_ a rfl rfl,rfl⟩
 ·obtain ⟨a,rfl⟩:=FU (ax hw).symm
  exact ⟨_,.group a rfl rfl,rfl⟩
 ·obtain ⟨a,rfl⟩:=FU (ax hw).symm
  exact ⟨_,.nogroup a rfl rfl,rfl⟩
 ·obtain ⟨a,b,c,d,e,f,g,rfl⟩:=Su (ax hw).symm
  exact ⟨_,.rule a b c d e f g rfl rfl,rfl⟩
 ·obtain ⟨a,rfl⟩:=FU (ax hw).symm
  exact ⟨_,.norule a rfl rfl,rfl⟩
 ·obtain ⟨a,b,rfl⟩:=Nd (ax hw).symm
  exact ⟨_,.move a b rfl rfl,rfl⟩
 ·obtain ⟨a,rfl⟩:=FU (ax hw).symm
  exact ⟨_,.runs a rfl rfl,rfl⟩
 ·obtain ⟨a,b,rfl⟩:=Nd (ax hw).symm
  exact ⟨_,.member a b rfl rfl,rfl⟩
 ·obtain ⟨a,rfl⟩:=FU (ax hw).symm
  exact ⟨_,.size a rfl rfl,rfl⟩
 ·obtain ⟨a,rfl⟩:=FU (ax hw).symm
  exact ⟨_,.blocks a rfl rfl,rfl⟩
 ·obtain ⟨a,b,c,rfl⟩:=Sv (ax hw).symm
  exact ⟨_,.cover a b c rfl rfl,rfl⟩
 ·obtain ⟨a,b,rfl⟩:=Nd (ax hw).symm
  exact ⟨_,.same a b rfl rfl,rfl⟩
 ·obtain ⟨a,b,rfl⟩:=Nd (ax hw).symm
  exact ⟨_,.inside a b rfl rfl,rfl⟩
 ·obtain ⟨a,b,c,d,rfl⟩:=Ra (ax hw).symm
  exact ⟨_,.ask a b c d rfl rfl,rfl⟩
 ·have:xs=[]:=iy.mp (ax hw).symm
  subst this
  exact ⟨_,.rows rfl rfl,rfl⟩
 ·obtain ⟨a,rfl⟩:=FU (ax hw).symm
  exact ⟨_,.row a rfl rfl,rfl⟩
 ·obtain ⟨a,b,c,d,rfl⟩:=Ra (ax hw).symm
  exact ⟨_,.look a b c d rfl rfl,rfl⟩
 ·have:xs=[]:=iy.mp (ax hw).symm
  subst this
  exact ⟨_,.rules rfl rfl,rfl⟩
inductive Asks:List PC->List Vbcnan.Call->Prop
 |nil:Asks [] []
 |cons {q:PC} {c:Vbcnan.Call} {qs:List PC} {cs:List Vbcnan.Call}:Kind q c->Asks qs cs->Asks (q::qs) (c::cs)
def rf:State->List Vbcnan.Call->List (List Int)
 |_,[]=>[]
 |s,c::r=>(step s c).2::rf (step s c).1 r
theorem CY {l:List Int}:∀ {i:Nat} {qs:List PC},GB l i qs->∃ cs,Asks qs cs/\∀ s,PyFlat.played VbcnanNeutral.step s ((qs.map rawOf).map PyVbcnan.whole)=rf s cs
 |_,_,.done _=>⟨[],.nil,fun _=>rfl⟩
 |_,_,.call (c:=q) (cs:=qs) a _ f=>by
  obtain ⟨c,k,e⟩:=Ni a
  obtain ⟨cs,h1,h2⟩:=CY f
  refine ⟨c::cs,.cons k h1,fun s => ?_⟩
  have es:∀ s,VbcnanNeutral.step s (PyVbcnan.whole (rawOf q))=step s c:=fun s=>by
   unfold VbcnanNeutral.step
   rw [e]
  show (VbcnanNeutral.step s (PyVbcnan.whole (rawOf q))).2::PyFlat.played VbcnanNeutral.step (VbcnanNeutral.step s (PyVbcnan.whole (rawOf q))).1 ((qs.map rawOf).map PyVbcnan.whole)=_
  rw [es,h2]
  rfl
theorem Gx {l:List Int} (h:PyVbcnan.answers_asked l=true):∃ qs cs,GB l 0 qs/\Asks qs cs/\PyVbcnan.answers l=PyFlat.told (rf start cs)/\(PyVbcnan.answers l).length<=10000000:=by
 unfold PyVbcnan.answers_asked at h
 cases hc:PyFlat.calls PyVbcnan.shape l.length l with
 |none =>
  rw [hc] at h
  cases h
 |some raw =>
  rw [hc] at h
  have h:(!raw.isEmpty&&PyFlat.atMost 400 raw&&PyInside.calls PyVbcnan.bound raw&&VbcnanNeutral.asked (raw.map PyVbcnan.whole)&&PyFlat.short 10000000 (PyVbcnan.answers l))=true:=h
  rw [aE] at h
  obtain ⟨qs,e1,f⟩:=Ad (l:=l) l.length 0 raw (by rw [List.drop_zero];exact hc)
  obtain ⟨cs,k,hp⟩:=CY f
  refine ⟨qs,cs,f,k,?_,of_decide_eq_true h.2⟩
  unfold PyVbcnan.answers PyVbcnan.calls
  rw [hc]
  show PyFlat.told (PyFlat.played VbcnanNeutral.step VbcnanNeutral.start (raw.map PyVbcnan.whole))=_
  rw [e1,hp]
  rfl
theorem Jq (a:List Int) (l:List (List Int)):PyFlat.told (a::l)=(a.length:Int)::a++PyFlat.told l:=by
 unfold PyFlat.told
 rw [dh]
end Mt
namespace Mt
open Vbcnan
def pk (a b c d:Nat):Nat:=2 ^ 16*(2 ^ 8*(2 ^ 32*a+b)+c)+d
structure g8 (w:Nat) (f:Field):Prop where
 v:f.value<2 ^ w
 m:f.mask<2 ^ w
 sub:f.value &&& f.mask=f.value
structure dP (r:Row):Prop where
 src:g8 32 r.src
 dst:g8 32 r.dst
 kind:g8 8 r.kind
 port:g8 16 r.port
def pv (r:Row):Nat:=pk r.src.value r.dst.value r.kind.value r.port.value
def pm (r:Row):Nat:=pk r.src.mask r.dst.mask r.kind.mask r.port.mask
theorem ux {n a b c d:Nat} (hb:b<2 ^ n) (hd:d<2 ^ n) (h:2 ^ n*a+b=2 ^ n*c+d):a=c/\b=d:=by
 have h1:=congrArg (· % 2 ^ n) h
 simp only [Nat.mul_add_mod,Nat.mod_eq_of_lt hb,Nat.mod_eq_of_lt hd] at h1
 subst h1
 have:2 ^ n*a=2 ^ n*c:=by omega
 exact ⟨Nat.eq_of_mul_eq_mul_left (bO n) this,rfl⟩
theorem oq {n a b c d:Nat} (hb:b<2 ^ n) (hd:d<2 ^ n):(2 ^ n*a+b) &&& (2 ^ n*c+d)=2 ^ n*(a &&& c)+(b &&& d):=by
 apply gH
 intro i
 rw [d9,cb _ hb,cb _ hd,cb _ (jc _ hd)]
 split<;>rw [d9]
theorem qc {n a b c d:Nat} (hb:b<2 ^ n) (hd:d<2 ^ n):(2 ^ n*a+b) ^^^ (2 ^ n*c+d)=2 ^ n*(a ^^^ c)+(b ^^^ d):=by
 apply gH
 intro i
 rw [gF,cb _ hb,cb _ hd,cb _ (jb hb hd)]
 split<;>rw [gF]
theorem MB {n a b:Nat} (hb:b<2 ^ n):a*2 ^ n ||| b=2 ^ n*a+b:=by
 rw [Nat.mul_comm]
 exact (Nat.two_pow_add_eq_or_of_lt hb a).symm
theorem yY {n a b k:Nat} (hb:b<2 ^ n) (h:2 ^ n*a+b=2 ^ k):(b=2 ^ k/\k<n/\a=0)\/(b=0/\n<=k/\a=2 ^ (k-n)):=by
 rcases aZ k n with z|z
 ·left
  have h1:2 ^ k<2 ^ n:=Nat.pow_lt_pow_right (by decide) z
  have h2:a=0:=by
   rcases Nat.eq_zero_or_pos a with q|q
   ·exact q
   ·have:2 ^ n*1<=2 ^ n*a:=Nat.mul_le_mul_left _ q
    omega
  subst h2
  exact ⟨by omega,z,rfl⟩
 ·right
  have e:2 ^ k=2 ^ n*2 ^ (k-n):=by rw [<-Nat.pow_add];congr 1;omega
  rw [e] at h
  have h3:2 ^ n*a+b=2 ^ n*2 ^ (k-n)+0:=by omega
  obtain ⟨h4,h5⟩:=ux hb (bO n) h3
  exact ⟨h5,z,h4⟩
structure Lt4 (a b c d:Nat):Prop where
 a:a<2 ^ 32
 b:b<2 ^ 32
 c:c<2 ^ 8
 d:d<2 ^ 16
theorem K3 {a b c d a' b' c' d':Nat} (h:Lt4 a b c d) (h':Lt4 a' b' c' d') (e:pk a b c d=pk a' b' c' d'):a=a'/\b=b'/\c=c'/\d=d':=by
 obtain ⟨e1,e2⟩:=ux h.d h'.d e
 obtain ⟨e3,e4⟩:=ux h.c h'.c e1
 obtain ⟨e5,e6⟩:=ux h.b h'.b e3
 exact ⟨e5,e6,e4,e2⟩
theorem K5 {a b c d a' b' c' d':Nat} (h:Lt4 a b c d) (h':Lt4 a' b' c' d'):pk a b c d &&& pk a' b' c' d'=pk (a &&& a') (b &&& b') (c &&& c') (d &&& d'):=by
 unfold pk
 rw [oq h.d h'.d,oq h.c h'.c,oq h.b h'.b]
theorem G5 {a b c d a' b' c' d':Nat} (h:Lt4 a b c d) (h':Lt4 a' b' c' d'):pk a b c d ^^^ pk a' b' c' d'=pk (a ^^^ a') (b ^^^ b') (c ^^^ c') (d ^^^ d'):=by
 unfold pk
 rw [qc h.d h'.d,qc h.c h'.c,qc h.b h'.b]
theorem Lt4.and {a b c d a' b' c' d':Nat} (h':Lt4 a' b' c' d'):Lt4 (a &&& a') (b &&& b') (c &&& c') (d &&& d'):=⟨jc _ h'.a,jc _ h'.b,jc _ h'.c,jc _ h'.d⟩
theorem Lt4.xor {a b c d a' b' c' d':Nat} (h:Lt4 a b c d) (h':Lt4 a' b' c' d'):Lt4 (a ^^^ a') (b ^^^ b') (c ^^^ c') (d ^^^ d'):=⟨jb h.a h'.a,jb h.b h'.b,jb h.c h'.c,jb h.d h'.d⟩
theorem K4 {a b c d:Nat} (h:Lt4 a b c d):pk a b c d / 2 ^ 16 / 2 ^ 8 / 2 ^ 32=a/\pk a b c d / 2 ^ 16 / 2 ^ 8%2 ^ 32=b/\pk a b c d / 2 ^ 16%2 ^ 8=c/\pk a b c d%2 ^ 16=d:=by
 have:=h.a
 have:=h.b
 have:=h.c
 have:=h.d
 unfold pk
 omega
theorem dP.lv {r:Row} (h:dP r):Lt4 r.src.value r.dst.value r.kind.value r.port.value:=⟨h.src.v,h.dst.v,h.kind.v,h.port.v⟩
theorem dP.lm {r:Row} (h:dP r):Lt4 r.src.mask r.dst.mask r.kind.mask r.port.mask:=⟨h.src.m,h.dst.m,h.kind.m,h.port.m⟩
def FX (x:Nat):Bool:=decide (x≠0)&&decide (x &&& (x-1)=0)
theorem CT {x:Nat}:FX x=true↔∃ k,x=2 ^ k:=by
 unfold FX
 rw [aE,decide_eq_true_iff,decide_eq_true_iff]
 constructor
 ·rintro ⟨h0,h⟩
  refine ⟨x.log2,?_⟩
  have h1:=Nat.log2_self_le h0
  have h2:x<2 ^ (x.log2+1):=Nat.lt_log2_self
  rcases aZ (2 ^ x.log2) x with z|z
  ·exfalso
   have b1:(x-1).testBit x.log2=true:=by
    have:x-1=2 ^ x.log2*1+(x-1-2 ^ x.log2):=by omega
    rw [this,cb _ (by rw [kP] at h2;omega),if_neg (dZ _),Nat.sub_self]
    rfl
   have b2:x.testBit x.log2=true:=by
    have:x=2 ^ x.log2*1+(x-2 ^ x.log2):=by omega
    rw [this,cb _ (by rw [kP] at h2;omega)]
    rw [<-this,if_neg (dZ _),Nat.sub_self]
    rfl
   have:(x &&& (x-1)).testBit x.log2=true:=by rw [d9,b1,b2];rfl
   rw [h,Nat.zero_testBit] at this
   cases this
  ·omega
 ·rintro ⟨k,rfl⟩
  refine ⟨gG (bO k),?_⟩
  rw [iu,Nat.mod_self]
theorem xu {w x k:Nat}:oneBit w x=some k↔x=2 ^ k/\k<w:=by
 induction w with
 |zero=>simp [oneBit]
 |succ w ih =>
  unfold oneBit
  by_cases e:x=2 ^ w
  ·rw [if_pos e]
   constructor
   ·intro h
    cases h
    exact ⟨e,fL _⟩
   ·rintro ⟨h1,h2⟩
    have:w=k:=(Nat.pow_right_inj (by decide)).mp (e.symm.trans h1)
    rw [this]
  ·rw [if_neg e,ih]
   constructor
   ·rintro ⟨h1,h2⟩
    exact ⟨h1,by omega⟩
   ·rintro ⟨h1,h2⟩
    refine ⟨h1,?_⟩
    rcases aZ k w with z|z
    ·exact z
    ·exact absurd (by rw [h1];congr 1;omega) e
end Mt
namespace Mt
open Vbcnan
theorem FA {m k:Nat} (h:m.testBit k=true):m-2 ^ k=m ^^^ 2 ^ k/\m ^^^ 2 ^ k=m &&& (m ^^^ 2 ^ k):=by
 have e2:m ^^^ 2 ^ k=m &&& (m ^^^ 2 ^ k):=by
  apply gH
  intro i
  rw [d9,gF,Nat.testBit_two_pow]
  by_cases e:k=i
  ·subst e
   simp [h]
  ·simp [e]
 refine ⟨?_,e2⟩
 rw [Nat.testBit_eq_decide_div_mod_eq,decide_eq_true_iff] at h
 have hb:m%2 ^ k<2 ^ k:=Nat.mod_lt _ (bO k)
 have e:m=2 ^ k*(2 ^ 1*(m / 2 ^ k / 2)+1)+m%2 ^ k:=by
  have h1:=Nat.div_add_mod m (2 ^ k)
  have h2:2 ^ 1*(m / 2 ^ k / 2)+1=m / 2 ^ k:=by omega
  rw [h2]
  omega
 have x1:m ^^^ 2 ^ k=2 ^ k*((2 ^ 1*(m / 2 ^ k / 2)+1) ^^^ 1)+(m%2 ^ k ^^^ 0):=by
  have:=qc (n:=k) (a:=2 ^ 1*(m / 2 ^ k / 2)+1) (b:=m%2 ^ k) (c:=1) (d:=0) hb (bO k)
  rw [<-e,Nat.mul_one,cM] at this
  exact this
 have x2:(2 ^ 1*(m / 2 ^ k / 2)+1) ^^^ 1=2 ^ 1*(m / 2 ^ k / 2):=by
  have:=qc (n:=1) (a:=m / 2 ^ k / 2) (b:=1) (c:=0) (d:=1) (by decide) (by decide)
  rw [Nat.mul_zero,kO,dv,dw,cM] at this
  exact this
 rw [x1,x2,dv]
 rw [Nat.mul_add] at e
 omega
theorem o8 {w:Nat} {f g:Field} (hf:g8 w f) (hg:g8 w g) {k:Nat} (hm:f.mask=g.mask) (hx:f.value ^^^ g.value=2 ^ k) (hk:k<w) :
 f.join w g=some ⟨f.value &&& g.value,f.mask ^^^ 2 ^ k⟩/\g8 w ⟨f.value &&& g.value,f.mask ^^^ 2 ^ k⟩:=by
 have hb:f.mask.testBit k=true:=by
  have h1:(f.value ^^^ g.value).testBit k=true:=by rw [hx,Nat.testBit_two_pow_self]
  rw [gF] at h1
  have h2:f.value.testBit k=true\/g.value.testBit k=true:=by
   cases q1:f.value.testBit k<;>cases q2:g.value.testBit k<;>simp [q1,q2] at h1 ⊢
  rcases h2 with h2|h2
  ·rw [<-hf.sub,d9] at h2
   rw [aE] at h2
   exact h2.2
  ·rw [<-hg.sub,d9,<-hm] at h2
   rw [aE] at h2
   exact h2.2
 obtain ⟨e1,e2⟩:=FA hb
 constructor
 ·unfold Field.join
  rw [if_neg (fun q=>q hm),xu.mpr ⟨hx,hk⟩]
  show some (⟨f.value &&& g.value,f.mask-2 ^ k⟩:Field)=_
  rw [e1]
 ·refine ⟨jc _ hg.v,jb hf.m (Nat.pow_lt_pow_right (by decide) hk),?_⟩
  apply gH
  intro i
  show ((f.value &&& g.value) &&& (f.mask ^^^ 2 ^ k)).testBit i=(f.value &&& g.value).testBit i
  have h3:(f.value ^^^ g.value).testBit i=decide (k=i):=by rw [hx,Nat.testBit_two_pow]
  rw [gF] at h3
  have h4:f.value.testBit i=true->f.mask.testBit i=true:=fun q=>by
   rw [<-hf.sub,d9,aE] at q
   exact q.2
  rw [d9,d9,gF,Nat.testBit_two_pow]
  by_cases e:k=i
  ·simp only [e,decide_true] at h3 ⊢
   cases q1:f.value.testBit i<;>cases q2:g.value.testBit i<;>simp_all
  ·simp only [e,decide_false] at h3 ⊢
   cases q1:f.value.testBit i<;>cases q2:g.value.testBit i<;>simp_all
theorem Es {w:Nat} {f g:Field} (h:¬(f.mask=g.mask/\∃ k,k<w/\f.value ^^^ g.value=2 ^ k)):f.join w g=none:=by
 unfold Field.join
 by_cases hm:f.mask=g.mask
 ·rw [if_neg (fun q=>q hm)]
  cases e:oneBit w (f.value ^^^ g.value) with
  |none=>rfl
  |some k =>
   obtain ⟨h1,h2⟩:=xu.mp e
   exact absurd ⟨hm,k,h2,h1⟩ h
 ·rw [if_pos hm]
theorem gn {f g:Field} (h1:f.value ^^^ g.value=0) (h2:f.mask=g.mask):f=g:=by
 have:f.value=g.value:=by
  apply gH
  intro i
  have:=congrArg (fun x=>x.testBit i) h1
  simp only [gF,Nat.zero_testBit] at this
  cases q1:f.value.testBit i<;>cases q2:g.value.testBit i<;>simp_all
 cases f
 cases g
 simp_all
theorem GC {a b k:Nat} (h:a ^^^ b=2 ^ k):a≠b:=fun e=>by
 rw [e,dw] at h
 have:=bO k
 omega
def EA (r q:Row):Bool:=(r.pass==q.pass)&&(decide (pm r=pm q)&&FX (pv r ^^^ pv q))
theorem Gh {r q:Row} (hr:dP r) (hq:dP q) (h:EA r q=true):∃ x,r.join q=some x/\dP x/\x.pass=r.pass/\pv x=pv r &&& pv q/\pm x=pm r ^^^ (pv r ^^^ pv q):=by
 unfold EA at h
 rw [aE,aE,beq_iff_eq,decide_eq_true_iff] at h
 obtain ⟨hp,hm,hx⟩:=h
 obtain ⟨k,hk⟩:=CT.mp hx
 obtain ⟨m1,m2,m3,m4⟩:=K3 hr.lm hq.lm hm
 have hX:pv r ^^^ pv q=pk (r.src.value ^^^ q.src.value) (r.dst.value ^^^ q.dst.value) (r.kind.value ^^^ q.kind.value) (r.port.value ^^^ q.port.value):=G5 hr.lv hq.lv
 have hA:pv r &&& pv q=pk (r.src.value &&& q.src.value) (r.dst.value &&& q.dst.value) (r.kind.value &&& q.kind.value) (r.port.value &&& q.port.value):=K5 hr.lv hq.lv
 have hL:=hr.lv.xor hq.lv
 have hXm:pm r ^^^ (pv r ^^^ pv q)=pk (r.src.mask ^^^ (r.src.value ^^^ q.src.value)) (r.dst.mask ^^^ (r.dst.value ^^^ q.dst.value)) (r.kind.mask ^^^ (r.kind.value ^^^ q.kind.value)) (r.port.mask ^^^ (r.port.value ^^^ q.port.value)):=by
  rw [hX]
  exact G5 hr.lm hL
 rw [hX] at hk
 have yr:∀ {a b:Nat},a ^^^ b=0->a &&& b=a:=fun {a b} e=>by
  apply gH
  intro i
  have:=congrArg (fun x=>x.testBit i) e
  simp only [gF,Nat.zero_testBit] at this
  rw [d9]
  cases q1:a.testBit i<;>cases q2:b.testBit i<;>simp_all
 have np:¬r.pass≠q.pass:=fun z=>z hp
 rcases yY hL.d hk with ⟨d1,d2,d3⟩|⟨d1,d2,d3⟩
 ·
  have c3:r.kind.value ^^^ q.kind.value=0:=by omega
  have b3:r.dst.value ^^^ q.dst.value=0:=by omega
  have a3:r.src.value ^^^ q.src.value=0:=by omega
  obtain ⟨j1,j2⟩:=o8 hr.port hq.port m4 d1 d2
  have es:=gn a3 m1
  have ed:=gn b3 m2
  have ek:=gn c3 m3
  have ne:r.port≠q.port:=fun z=>GC d1 (by rw [z])
  refine ⟨{r with port:=⟨r.port.value &&& q.port.value,r.port.mask ^^^ 2 ^ k⟩},?_,⟨hr.src,hr.dst,hr.kind,j2⟩,rfl,?_,?_⟩
  ·unfold Row.join
   rw [if_neg np,if_neg (fun z=>ne z.2.2),if_neg (fun z=>ne z.2.2),if_neg (fun z=>ne z.2.2),if_pos ⟨es,ed,ek⟩,j1]
   rfl
  ·rw [hA,yr a3,yr b3,yr c3]
   rfl
  ·rw [hXm,a3,b3,c3,d1,dv,dv,dv]
   rfl
 ·rcases yY hL.c d3 with ⟨c1,c2,c3⟩|⟨c1,c2,c3⟩
  ·
   have b3:r.dst.value ^^^ q.dst.value=0:=by omega
   have a3:r.src.value ^^^ q.src.value=0:=by omega
   obtain ⟨j1,j2⟩:=o8 hr.kind hq.kind m3 c1 c2
   have es:=gn a3 m1
   have ed:=gn b3 m2
   have ep:=gn d1 m4
   have ne:r.kind≠q.kind:=fun z=>GC c1 (by rw [z])
   refine ⟨{r with kind:=⟨r.kind.value &&& q.kind.value,r.kind.mask ^^^ 2 ^ (k-16)⟩},?_,⟨hr.src,hr.dst,j2,hr.port⟩,rfl,?_,?_⟩
   ·unfold Row.join
    rw [if_neg np,if_neg (fun z=>ne z.2.1),if_neg (fun z=>ne z.2.1),if_pos ⟨es,ed,ep⟩,j1]
    rfl
   ·rw [hA,yr a3,yr b3,yr d1]
    rfl
   ·rw [hXm,a3,b3,d1,c1,dv,dv,dv]
    rfl
  ·rcases yY hL.b c3 with ⟨b1,b2,b3⟩|⟨b1,b2,b3⟩
   ·
    have a3:r.src.value ^^^ q.src.value=0:=by omega
    obtain ⟨j1,j2⟩:=o8 hr.dst hq.dst m2 b1 b2
    have es:=gn a3 m1
    have ek:=gn c1 m3
    have ep:=gn d1 m4
    have ne:r.dst≠q.dst:=fun z=>GC b1 (by rw [z])
    refine ⟨{r with dst:=⟨r.dst.value &&& q.dst.value,r.dst.mask ^^^ 2 ^ (k-16-8)⟩},?_,⟨hr.src,j2,hr.kind,hr.port⟩,rfl,?_,?_⟩
    ·unfold Row.join
     rw [if_neg np,if_neg (fun z=>ne z.1),if_pos ⟨es,ek,ep⟩,j1]
     rfl
    ·rw [hA,yr a3,yr c1,yr d1]
     rfl
    ·rw [hXm,a3,c1,d1,b1,dv,dv,dv]
     rfl
   ·
    have S6:k-16-8-32<32:=by
     rcases aZ (k-16-8-32) 32 with z|z
     ·exact z
     ·have:=j7 (show 0<2 by decide) z
      have:=hL.a
      omega
    obtain ⟨j1,j2⟩:=o8 hr.src hq.src m1 b3 S6
    have ed:=gn b1 m2
    have ek:=gn c1 m3
    have ep:=gn d1 m4
    refine ⟨{r with src:=⟨r.src.value &&& q.src.value,r.src.mask ^^^ 2 ^ (k-16-8-32)⟩},?_,⟨j2,hr.dst,hr.kind,hr.port⟩,rfl,?_,?_⟩
    ·unfold Row.join
     rw [if_neg np,if_pos ⟨ed,ek,ep⟩,j1]
     rfl
    ·rw [hA,yr b1,yr c1,yr d1]
     rfl
    ·rw [hXm,b1,c1,d1,b3,dv,dv,dv]
     rfl
theorem CD {j n:Nat}:2 ^ n*2 ^ j=2 ^ (n+j):=by rw [Nat.pow_add]
theorem Jc {r q:Row} (hr:dP r) (hq:dP q) (h:EA r q=false):r.join q=none:=by
 have hX:pv r ^^^ pv q=pk (r.src.value ^^^ q.src.value) (r.dst.value ^^^ q.dst.value) (r.kind.value ^^^ q.kind.value) (r.port.value ^^^ q.port.value):=G5 hr.lv hq.lv
 have key:r.pass=q.pass->r.src.mask=q.src.mask->r.dst.mask=q.dst.mask->r.kind.mask=q.kind.mask->r.port.mask=q.port.mask->(∃ k,pv r ^^^ pv q=2 ^ k)->False:=fun hp m1 m2 m3 m4 hk=>by
  have:EA r q=true:=by
   unfold EA
   rw [aE,aE,beq_iff_eq,decide_eq_true_iff]
   refine ⟨hp,?_,CT.mpr hk⟩
   unfold pm
   rw [m1,m2,m3,m4]
  rw [h] at this
  cases this
 unfold Row.join
 by_cases hp:r.pass=q.pass
 ·rw [if_neg (fun z=>z hp)]
  have uQ:∀ {w:Nat} {f g:Field} {F:Field->Row},(f.mask=g.mask->∀ k,k<w->f.value ^^^ g.value=2 ^ k->False)->(f.join w g).map F=none:=fun {w f g F} hh=>by
   rw [Es (fun ⟨hm,k,h1,h2⟩=>hh hm k h1 h2)]
   rfl
  split
  ·rename_i e
   obtain ⟨e1,e2,e3⟩:=e
   refine uQ fun hm k hk hx=>key hp hm (by rw [e1]) (by rw [e2]) (by rw [e3]) ⟨16+(8+(32+k)),?_⟩
   rw [hX,e1,e2,e3,hx,dw,dw,dw]
   unfold pk
   rw [cM,cM,cM,CD,CD,CD]
  ·split
   ·rename_i e
    obtain ⟨e1,e2,e3⟩:=e
    refine uQ fun hm k hk hx=>key hp (by rw [e1]) hm (by rw [e2]) (by rw [e3]) ⟨16+(8+k),?_⟩
    rw [hX,e1,e2,e3,hx,dw,dw,dw]
    unfold pk
    rw [Nat.mul_zero,kO,cM,cM,CD,CD]
   ·split
    ·rename_i e
     obtain ⟨e1,e2,e3⟩:=e
     refine uQ fun hm k hk hx=>key hp (by rw [e1]) (by rw [e2]) hm (by rw [e3]) ⟨16+k,?_⟩
     rw [hX,e1,e2,e3,hx,dw,dw,dw]
     unfold pk
     simp only [Nat.mul_zero,kO,cM]
     exact CD
    ·split
     ·rename_i e
      obtain ⟨e1,e2,e3⟩:=e
      refine uQ fun hm k hk hx=>key hp (by rw [e1]) (by rw [e2]) (by rw [e3]) hm ⟨k,?_⟩
      rw [hX,e1,e2,e3,hx,dw,dw,dw]
      unfold pk
      simp only [Nat.mul_zero,kO,cM]
     ·rfl
 ·rw [if_pos hp]
def NoJ:List Row->Prop
 |r::q::l=>r.join q=none/\NoJ (q::l)
 |_=>True
theorem NoJ.once:∀ {l:List Row},NoJ l->joinOnce l=none
 | [],_=>rfl
 | [_],_=>rfl
 |r::q::l,h=>by
  unfold joinOnce
  rw [h.1]
  show (joinOnce (q::l)).map _=none
  rw [NoJ.once h.2]
  rfl
theorem NoJ.snoc:∀ {l:List Row} {t x:Row},NoJ (l++[t])->t.join x=none->NoJ (l++[t,x])
 | [],t,x,_,h=>⟨h,trivial⟩
 | [r],t,x,n,h=>⟨n.1,h,trivial⟩
 |r::q::l,t,x,n,h=>⟨n.1,NoJ.snoc (l:=q::l) n.2 h⟩
theorem NoJ.left:∀ {l:List Row} {t:Row},NoJ (l++[t])->NoJ l
 | [],_,_=>trivial
 | [_],_,_=>trivial
 |r::q::l,t,n=>⟨n.1,NoJ.left (l:=q::l) n.2⟩
theorem IC:∀ {l:List Row} {t x y:Row} {rs:List Row},NoJ (l++[t])->t.join x=some y->joinOnce (l++t::x::rs)=some (l++y::rs)
 | [],t,x,y,rs,_,h=>by
  show joinOnce (t::x::rs)=_
  unfold joinOnce
  rw [h]
  rfl
 | [r],t,x,y,rs,n,h=>by
  show joinOnce (r::t::x::rs)=_
  unfold joinOnce
  rw [n.1]
  show (joinOnce (t::x::rs)).map _=_
  unfold joinOnce
  rw [h]
  rfl
 |r::q::l,t,x,y,rs,n,h=>by
  show joinOnce (r::q::(l++t::x::rs))=_
  unfold joinOnce
  rw [n.1]
  show (joinOnce ((q::l)++t::x::rs)).map _=_
  rw [IC (l:=q::l) n.2 h]
  rfl
def push:List Row->Row->List Row
 | [],x=>[x]
 |t::st,x=>match t.join x with
  |some y=>push st y
  |none=>x::t::st
def du:List Row->List Row->List Row
 |st,[]=>st.reverse
 |st,r::rs=>du (push st r) rs
theorem Fz:∀ (st:List Row) (x:Row),(push st x).length<=st.length+1
 | [],x=>ay _
 |t::st,x=>by
  unfold push
  cases t.join x with
  |some y=>have:=Fz st y;simp;omega
  |none=>simp
theorem Fy:∀ (st:List Row) (x:Row),NoJ st.reverse->NoJ (push st x).reverse
 | [],x,_=>trivial
 |t::st,x,h=>by
  rw [fq] at h
  unfold push
  cases e:t.join x with
  |some y=>exact Fy st y h.left
  |none =>
   show NoJ (x::t::st).reverse
   rw [fq,fq,di]
   exact NoJ.snoc h e
theorem uS:∀ (st:List Row) (x:Row) (rs:List Row) (n:Nat),NoJ st.reverse->st.length+1+rs.length<=n ->
 ∃ m,(push st x).length+rs.length<=m/\joinAll n (st.reverse++x::rs)=joinAll m ((push st x).reverse++rs)
 | [],x,rs,n,_,hn=>⟨n,by show 1+rs.length<=n;simp at hn;omega,rfl⟩
 |t::st,x,rs,n,h,hn=>by
  rw [fq] at h ⊢
  unfold push
  cases e:t.join x with
  |some y =>
   show ∃ m,(push st y).length+rs.length<=m/\_=joinAll m ((push st y).reverse++rs)
   cases n with
   |zero=>simp at hn
   |succ n =>
    obtain ⟨m,h1,h2⟩:=uS st y rs n h.left (by simp at hn;omega)
    refine ⟨m,h1,?_⟩
    rw [<-h2]
    rw [di]
    show joinAll (n+1) (st.reverse++t::x::rs)=_
    conv=>lhs;unfold joinAll
    rw [IC h e]
  |none =>
   refine ⟨n,by simp at hn ⊢; omega,?_⟩
   show _=joinAll n ((x::t::st).reverse++rs)
   rw [fq,fq]
   simp
theorem FW {l:List Row} (h:NoJ l):∀ n,joinAll n l=l
 |0=>rfl
 |n+1=>by
  unfold joinAll
  rw [h.once]
theorem pS:∀ (rs st:List Row) (n:Nat),NoJ st.reverse->st.length+rs.length<=n->joinAll n (st.reverse++rs)=du st rs
 | [],st,n,h,_=>by
  rw [cS,FW h]
  rfl
 |r::rs,st,n,h,hn=>by
  obtain ⟨m,h1,h2⟩:=uS st r rs n h (by simp at hn;omega)
  rw [h2]
  exact pS rs (push st r) m (Fy st r h) h1
theorem Hl (l:List Row):joinAll l.length l=du [] l:=pS l [] l.length trivial (by simp)
theorem Ir:∀ (st:List Row) (x:Row),(∀ r,r∈st->dP r)->dP x->∀ r,r∈push st x->dP r
 | [],x,_,hx,r,hr=>by
  have:r=x:=by simpa [push] using hr
  rw [this]
  exact hx
 |t::st,x,hs,hx,r,hr=>by
  have ht:dP t:=hs t (ae.mpr (.inl rfl))
  unfold push at hr
  cases e:EA t x with
  |true =>
   obtain ⟨y,h1,h2,_⟩:=Gh ht hx e
   rw [h1] at hr
   exact Ir st y (fun q hq=>hs q (ae.mpr (.inr hq))) h2 r hr
  |false =>
   rw [Jc ht hx e] at hr
   have hr:r=x\/r∈t::st:=by simpa using hr
   rcases hr with q|q
   ·rw [q];exact hx
   ·exact hs r q
theorem yZ:∀ (rs st:List Row),(∀ r,r∈st->dP r)->(∀ r,r∈rs->dP r)->∀ r,r∈du st rs->dP r
 | [],st,h,_,r,hr=>h r (by simpa [du] using hr)
 |x::rs,st,h,h2,r,hr=>yZ rs (push st x) (Ir st x h (h2 x (ae.mpr (.inl rfl)))) (fun q hq=>h2 q (ae.mpr (.inr hq))) r hr
theorem xp:∀ (rs st:List Row),(du st rs).length<=st.length+rs.length
 | [],st=>by simp [du]
 |x::rs,st=>by
  have h1:=xp rs (push st x)
  have h2:=Fz st x
  simp [du]
  omega
end Mt
namespace Mt
open Vbcnan
theorem FI:∀ (m n:Nat),n<=m->0<n->∃ t a,n=2 ^ t*(2*a+1)
 |0,n,h,h0=>by omega
 |m+1,n,h,h0=>by
  rcases ug n with z|z
  ·obtain ⟨t,a,e⟩:=FI m (n / 2) (by omega) (by omega)
   refine ⟨t+1,a,?_⟩
   rw [kP,Nat.mul_comm (2 ^ t) 2,Nat.mul_assoc,<-e]
   omega
  ·exact ⟨0,n / 2,by rw [Nat.pow_zero];omega⟩
theorem Nb {t a:Nat}:2 ^ t*(2*a+1)-(2 ^ t*(2*a+1) &&& (2 ^ t*(2*a+1)-1))=2 ^ t:=by
 have hp:=bO t
 have e1:2 ^ t*(2*a+1)-1=2 ^ t*(2*a)+(2 ^ t-1):=by rw [Nat.mul_add,Nat.mul_one];omega
 have e2:(2 ^ t*(2*a+1)+0) &&& (2 ^ t*(2*a)+(2 ^ t-1))=2 ^ t*((2*a+1) &&& (2*a))+(0 &&& (2 ^ t-1)):=oq hp (by omega)
 have e3:(2 ^ 1*a+1) &&& (2 ^ 1*a+0)=2 ^ 1*(a &&& a)+(1 &&& 0):=oq (by decide) (by decide)
 have e4:(2*a+1) &&& (2*a)=2*a:=by
  have:(2*a+1) &&& (2*a)=2*(a &&& a)+0:=e3
  rw [this,Nat.and_self,cM]
 rw [cM,e4,Nat.zero_and,cM] at e2
 rw [e1,e2,Nat.mul_add,Nat.mul_one]
 omega
theorem ID {t a j:Nat}:2 ^ t*(2*a+1)%2 ^ j=0↔j<=t:=by
 constructor
 ·intro h
  rcases aZ t j with z|z
  ·exfalso
   have h1:=zM h (show t+1<=j from z)
   obtain ⟨c,hc⟩:=oh h1
   rw [kP,Nat.mul_assoc] at hc
   have:=Nat.eq_of_mul_eq_mul_left (bO t) hc
   omega
  ·exact z
 ·intro h
  exact og (Nat.dvd_trans (Nat.pow_dvd_pow 2 h) ⟨_,rfl⟩)
def Er (lo hi:Nat):Nat:=if lo=0 then (hi-lo+1).log2 else min (hi-lo+1).log2 (lo-(lo &&& (lo-1))).log2
theorem J8 {lo hi w:Nat} (h:lo<=hi) (hw:hi+1<=2 ^ w):Er lo hi=blockAt lo hi w:=by
 have hn0:hi-lo+1≠0:=by omega
 have r1:=Nat.log2_self_le hn0
 have r2:hi-lo+1<2 ^ ((hi-lo+1).log2+1):=Nat.lt_log2_self
 have hrw:(hi-lo+1).log2<=w:=by
  rcases aZ w (hi-lo+1).log2 with z|z
  ·have:=Nat.pow_lt_pow_right (a:=2) (by decide) z
   omega
  ·exact z
 have big:∀ j,(hi-lo+1).log2<j->¬(lo+2 ^ j<=hi+1):=fun j hj q=>by
  have:=j7 (show 0<2 by decide) (show (hi-lo+1).log2+1<=j from hj)
  omega
 unfold Er
 by_cases h0:lo=0
 ·rw [if_pos h0]
  refine (Ak h hrw (by rw [h0];exact Nat.zero_mod _) (by omega) fun j h1 h2 q=>big j h1 q.2).symm
 ·rw [if_neg h0]
  obtain ⟨t,a,e⟩:=FI lo lo (ay _) (by omega)
  have el:(lo-(lo &&& (lo-1))).log2=t:=by
   rw [e,Nb,Nat.log2_two_pow]
  rw [el]
  have hm1:min (hi-lo+1).log2 t<=(hi-lo+1).log2:=Nat.min_le_left _ _
  have hm2:min (hi-lo+1).log2 t<=t:=Nat.min_le_right _ _
  have hp:=j7 (show 0<2 by decide) hm1
  have hd:lo%2 ^ min (hi-lo+1).log2 t=0:=by
   generalize min (hi-lo+1).log2 t=k at hm2
   rw [e]
   exact ID.mpr hm2
  refine (Ak h (by omega) hd (by omega) fun j h1 h2 q => ?_).symm
  have q1:=q.1
  rw [e,ID] at q1
  rcases aZ (hi-lo+1).log2 j with z|z
  ·exact big j z q.2
  ·have:min (hi-lo+1).log2 t=min (hi-lo+1).log2 t:=rfl
   omega
theorem Jb {w hi:Nat}:∀ {l:List (Nat×Nat)} {lo:Nat},Cov w hi lo l->∀ b,b∈l->b.2<=w/\b.1%2 ^ b.2=0/\b.1+2 ^ b.2<=hi+1
 |_,lo,.nil h,b,hb=>by cases hb
 |_,lo,.cons (l:=l) h c,b,hb=>by
  rcases ae.mp hb with q|q
  ·obtain ⟨a1,a2,a3,_⟩:=jZ h w
   rw [q]
   exact ⟨a1,a2,a3⟩
  ·exact Jb c b q
theorem wC {w lo hi:Nat} (hw:hi+1<=2 ^ w) {b:Nat×Nat} (hb:b∈coverOf w lo hi):b.2<=w/\b.1%2 ^ b.2=0/\b.1+2 ^ b.2<=hi+1:=by
 obtain ⟨l,c⟩:=Ey w hi _ lo (ay _)
 rw [mY hw c] at hb
 exact Jb c b hb
theorem L1 {w:Nat} {b:Nat×Nat} (h1:b.2<=w) (h2:b.1%2 ^ b.2=0) (h3:b.1<2 ^ w):g8 w (block w b):=by
 have hp:=bO b.2
 have hq:=bO (w-b.2)
 have ew:2 ^ (w-b.2)*2 ^ b.2=2 ^ w:=by rw [<-Nat.pow_add];congr 1;omega
 obtain ⟨c,hc⟩:=oh h2
 refine ⟨h3,?_,?_⟩
 ·show (2 ^ (w-b.2)-1)*2 ^ b.2<2 ^ w
  rw [Nat.sub_mul,ew,Nat.one_mul]
  have:=bO w
  omega
 ·show b.1 &&& (2 ^ (w-b.2)-1)*2 ^ b.2=b.1
  have:=oq (n:=b.2) (a:=c) (b:=0) (c:=2 ^ (w-b.2)-1) (d:=0) hp hp
  rw [cM,cM,Nat.and_self,cM,iu,Nat.mul_comm (2 ^ b.2) (2 ^ (w-b.2)-1),<-hc] at this
  rw [this,Nat.mod_eq_of_lt,<-hc]
  rw [<-ew,hc,Nat.mul_comm (2 ^ b.2) c] at h3
  exact Nat.lt_of_mul_lt_mul_right h3
theorem Gd {w lo hi:Nat} (hw:hi+1<=2 ^ w) {f:Field} (hf:f∈(coverOf w lo hi).map (block w)):g8 w f:=by
 obtain ⟨b,hb,rfl⟩:=bx.mp hf
 obtain ⟨a1,a2,a3⟩:=wC hw hb
 have:=bO b.2
 exact L1 a1 a2 (by omega)
theorem Qg (w:Nat):g8 w ⟨0,0⟩:=⟨bO w,bO w,rfl⟩
def eD (es:List Int):List (Nat×Nat):=(bp es).flatMap fun p=>coverOf 32 p.1 p.2
theorem Ke:coverOf 32 0 4294967295=[(0,32)]:=by
 rw [o9 (by decide)]
 have:blockAt 0 4294967295 32=32:=by
  unfold blockAt
  rw [if_pos (by decide)]
 rw [if_neg (by decide),this,o9 (by decide),if_pos (by decide)]
theorem Gi:eD [0,4294967296]=[(0,32)]:=by
 show ([(0,4294967295)]:List (Nat×Nat)).flatMap _=_
 rw [dh,List.flatMap_nil,cS]
 exact Ke
theorem lU:∀ {l:List Int} {p:Nat×Nat},(∀ x,x∈l->0<=x/\x<=4294967296)->Inc l->p∈bp l->p.2+1<=2 ^ 32
 | [],p,_,_,h=>by cases h
 | [_],p,_,_,h=>by cases h
 |a::b::l,p,hx,hi,h=>by
  have hb:=hx b (by simp)
  have ha:=hx a (by simp)
  have hab:a<b:=(aR.mp hi).1 b (by simp)
  have hi2:Inc l:=(aR.mp (aR.mp hi).2).2
  rcases ae.mp (show p∈(a.toNat,(b-1).toNat)::bp l from h) with q|q
  ·rw [q]
   show (b-1).toNat+1<=4294967296
   omega
  ·exact lU (fun x h=>hx x (by simp [h])) hi2 q
theorem Aj {es:List Int} (E:dY es) {f:Field} (hf:f∈(eD es).map (block 32)):g8 32 f:=by
 obtain ⟨b,hb,rfl⟩:=bx.mp hf
 obtain ⟨p,hp,hb⟩:=kQ.mp hb
 exact Gd (lU E.bnd E.inc hp) (bx.mpr ⟨b,hb,rfl⟩)
theorem LO {gs:List Group} {g:Nat} {es:List Int} (E:dY es) (h:∀ a:Nat,a<ALL->odd es a=isIn gs g a):fieldsOf gs (some g)=(eD es).map (block 32):=by
 show (runsOf gs g).flatMap (fun p=>(coverOf 32 p.1 p.2).map (block 32))=_
 rw [gq E h]
 unfold eD
 rw [List.map_flatMap]
theorem HF (gs:List Group):fieldsOf gs none=(eD [0,4294967296]).map (block 32):=by
 rw [Gi]
 show [(⟨0,0⟩:Field)]=[block 32 (0,32)]
 unfold block
 simp
theorem m6 {es:List Int} (E:dY es):(eD es).length<=(bp es).length*65:=by
 unfold eD
 exact mB fun p hp=>gQ (lU E.bnd E.inc hp)
theorem uo:∀ (l b:List Row),∀ r,r∈thin b l->r∈l
 | [],b,r,h=>by simp [thin] at h
 |x::l,b,r,h=>by
  unfold thin at h
  split at h
  ·exact ae.mpr (.inr (uo l b r h))
  ·rcases ae.mp h with q|q
   ·exact ae.mpr (.inl q)
   ·exact ae.mpr (.inr (uo l _ r q))
theorem uq:∀ (l b:List Row),(thin b l).length<=l.length
 | [],b=>by simp [thin]
 |x::l,b=>by
  unfold thin
  split
  ·have:=uq l b
   simp
   omega
  ·have:=uq l (b++[x])
   simp
   omega
theorem Js {l:List Row} {i:Nat} {x:Row} (hx:l[i]? = some x) {b:List Row}:thin b (l.drop i)=if (b.any fun q=>q.covers x)=true then thin b (l.drop (i+1)) else x::thin (b++[x]) (l.drop (i+1)):=by
 obtain ⟨h1,h2⟩:=ak.mp hx
 rw [bq h1,h2]
 rfl
theorem Cv:∀ (l:List Row) (r:Row),trim (l++[r])=if r.pass=true then l++[r] else trim l
 | [],r=>by
  show (match trim [] with | []=>if r.pass=true then [r] else []|m=>r::m)=_
  rfl
 |x::l,r=>by
  show (match trim (l++[r]) with | []=>if x.pass=true then [x] else []|m=>x::m)=_
  rw [Cv l r]
  by_cases h:r.pass=true
  ·rw [if_pos h,if_pos h]
   cases l<;>rfl
  ·rw [if_neg h,if_neg h]
   rfl
theorem E3:∀ (l:List Row) (r:Row),r∈trim l->r∈l
 | [],r,h=>by simp [trim] at h
 |x::l,r,h=>by
  unfold trim at h
  split at h
  ·split at h
   ·exact ae.mpr (.inl (by simpa using h))
   ·simp at h
  ·rename_i m hm
   rcases ae.mp h with q|q
   ·exact ae.mpr (.inl q)
   ·exact ae.mpr (.inr (E3 l r q))
theorem z7 {α : Type} {f : α -> Bool}:∀ {l:List α} {n i:Nat} {x : α},(∀ j y,j<i->l[j]? = some y->f y=false)->l[i]? = some x->f x=true->firstAt f n l=some (n+i,x)
 | [],n,i,x,_,h,_=>by simp at h
 |y::l,n,0,x,_,h,hx=>by
  have:y=x:=by simpa using h
  subst this
  unfold firstAt
  rw [if_pos hx]
  rfl
 |y::l,n,i+1,x,hn,h,hx=>by
  have h0:f y=false:=hn 0 y (by omega) rfl
  unfold firstAt
  rw [if_neg (by rw [h0];exact aV),z7 (i:=i) (fun j z hj hz=>hn (j+1) z (by omega) (by simpa using hz)) (by simpa using h) hx]
  congr 2
  omega
theorem tQ {α : Type} {f : α -> Bool}:∀ {l:List α} {n:Nat},(∀ (j:Nat) y,l[j]? = some y->f y=false)->firstAt f n l=none
 | [],n,_=>rfl
 |y::l,n,hn=>by
  unfold firstAt
  rw [if_neg (by rw [hn 0 y rfl];exact aV)]
  exact tQ fun j z hz=>hn (j+1) z (by simpa using hz)
def pp (p:Packet):Nat:=pk p.src p.dst p.kind p.port
theorem NA {r:Row} {p:Packet} (hr:dP r) (hp:Lt4 p.src p.dst p.kind p.port):r.fits p=decide (pp p &&& pm r=pv r):=by
 have e:pp p &&& pm r=pk (p.src &&& r.src.mask) (p.dst &&& r.dst.mask) (p.kind &&& r.kind.mask) (p.port &&& r.port.mask):=K5 hp hr.lm
 rw [e,bU,decide_eq_true_iff]
 unfold Row.fits Field.fits
 simp only [aE,beq_iff_eq]
 constructor
 ·rintro ⟨h1,h2,h3,h4⟩
  rw [h1,h2,h3,h4]
  rfl
 ·intro h
  exact K3 (Lt4.and hr.lm) hr.lv h
theorem MG {gs:List Group} {r:Rule} {ss ds:List (Nat×Nat)} (hs:fieldsOf gs r.src=ss.map (block 32)) (hd:fieldsOf gs r.dst=ds.map (block 32)) (h1:∀ f,f∈ss.map (block 32)->g8 32 f) (h2:∀ f,f∈ds.map (block 32)->g8 32 f)
 (hk:∀ k,r.kind=some k->k<=255) (hp:r.hi<=65535):∀ x,x∈rowsOf gs r->dP x:=by
 intro x hx
 unfold rowsOf at hx
 rw [hs,hd] at hx
 obtain ⟨a,ha,hx⟩:=kQ.mp hx
 obtain ⟨b,hb,hx⟩:=kQ.mp hx
 obtain ⟨c,hc,rfl⟩:=bx.mp hx
 refine ⟨h1 a ha,h2 b hb,?_,Gd (by omega) hc⟩
 cases e:r.kind with
 |none=>exact Qg 8
 |some k =>
  have:=hk k e
  refine ⟨by show k<256;omega,(by decide:(255:Nat)<2 ^ 8),?_⟩
  show k &&& 255=k
  have:=iu k 8
  rw [show (2:Nat) ^ 8-1=255 from rfl] at this
  rw [this]
  exact Nat.mod_eq_of_lt (by omega)
end Mt
set_option maxRecDepth 100000
set_option maxHeartbeats 4000000
namespace Sw
open PySem PySem.Spec PyProof.Rows L2 L3
def widths:List V:=[.int (1),.int (1),.int (1),.int (7),.int (1),.int (2),.int (1),.int (2),.int (1),.int (1),.int (3),.int (2),.int (2),.int (4),.int (0),.int (1),.int (4),.int (0)]
abbrev tZ:List Str:=["form"]
def p8 (K:Frag):TS :=
 (bw (DJ (tOp rEq (af 0) (tC (.int (0)))) (tOp rEq (af 0) (tC (.int (1))))))
abbrev j0:List Str:=["form"]
def jl (K:Frag):TS :=
 (bw (DJ (tOp rEq (af 0) (tC (.int (2)))) (tOp rEq (af 0) (tC (.int (3))))))
abbrev qV:List Str:=["form"]
def oJ (K:Frag):TS :=
 (bw (DJ (tOp rEq (af 0) (tC (.int (0)))) (tOp rEq (af 0) (tC (.int (2))))))
abbrev EN:List Str:=["edges","touched","yes","marked","inside","i","j","here","now"]
def yD (K:Frag):TS :=
 (aM (bQ (cD aF) (aN 3)) (aM (bQ (tC (.bl false)) (aN 4)) (aM (bQ (tC (.int 0)) (aN 5)) (aM (bQ (tC (.int 0)) (aN 6)) (aM (sT (tOr (bH (tOp (rI0 fun i j=>.bl (decide (i<j))) (af 5) (tCB (eP K) (ag (af 0) aF)))) (bH (tOp (rI0 fun i j=>.bl (decide (i<j))) (af 6) (tCB (eP K) (ag (af 1) aF)))))
 (aM (cK (tOr (bH (tOp rEq (af 6) (tCB (eP K) (ag (af 1) aF)))) (vN (bH (tOp (rI0 fun i j=>.bl (decide (i<j))) (af 5) (tCB (eP K) (ag (af 0) aF)))) (bH (tOp (rI0 fun i j=>.bl (decide (i<j))) (tOp (ez K) (af 0) (af 5)) (tOp (ez K) (af 1) (af 6))))))
 (bQ (tOp (ez K) (af 0) (af 5)) (aN 7))
 (bQ (tOp (ez K) (af 1) (af 6)) (aN 7))) (aM (cK (vN (bH (tOp (rI0 fun i j=>.bl (decide (i<j))) (af 5) (tCB (eP K) (ag (af 0) aF)))) (bH (tOp rEq (tOp (ez K) (af 0) (af 5)) (af 7))))
 (GQ 5 (tC (.int 1)) (ipI fun i j=>i+j))
 bI) (aM (cK (vN (bH (tOp (rI0 fun i j=>.bl (decide (i<j))) (af 6) (tCB (eP K) (ag (af 1) aF)))) (bH (tOp rEq (tOp (ez K) (af 1) (af 6)) (af 7))))
 (GQ 6 (tC (.int 1)) (ipI fun i j=>i+j))
 bI) (aM (bQ (tIf (bH (tOp rEq (tOp (rI (fun _ j=>0<j) fun i j=>.int (i%j)) (af 6) (tC (.int 2))) (tC (.int 1)))) (af 2) (tOp rEq (tOp (rI (fun _ j=>0<j) fun i j=>.int (i%j)) (af 5) (tC (.int 2))) (tC (.int 1)))) (aN 8)) (cK (bH (tOp rNe (af 8) (af 4)))
 (aM (dF (tBM K "list" dR (af 3) (ag (af 7) aF))) (bQ (af 8) (aN 4)))
 bI)))))) (bw (af 3)))))))
abbrev qW:List Str:=["edges","listed","i"]
def oK (K:Frag):TS :=
 (aM (bQ (cD aF) (aN 1)) (aM (kI (CV (ag (tC (.int 0)) (ag (tCB (eP K) (ag (af 0) aF)) (ag (tC (.int 2)) aF)))) (aN 2)
 (aM (dF (tBM K "list" dR (af 1) (ag (tOp (ez K) (af 0) (af 2)) aF))) (dF (tBM K "list" dR (af 1) (ag (tOp (rI0 fun i j=>.int (i-j)) (tOp (ez K) (af 0) (tOp (rI0 fun i j=>.int (i+j)) (af 2) (tC (.int 1)))) (tC (.int 1))) aF))))) (bw (af 1))))
abbrev gD:List Str:=["edges","i"]
def iS (K:Frag):TS :=
 (bw (tCB (O0 K) (ag (tLc (CV (ag (tC (.int 0)) (ag (tCB (eP K) (ag (af 0) aF)) (ag (tC (.int 2)) aF)))) (aN 1) Jv (tOp (rI0 fun i j=>.int (i-j)) (tOp (ez K) (af 0) (tOp (rI0 fun i j=>.int (i+j)) (af 1) (tC (.int 1)))) (tOp (ez K) (af 0) (af 1))) [1]) aF)))
abbrev pI:List Str:=["first","hi","room"]
def nv (K:Frag):TS :=
 (aM (bQ (tOp (rI0 fun i j=>.int (i-j)) (KH K "int" yG (tOp (rI0 fun i j=>.int (i+j)) (tOp (rI0 fun i j=>.int (i-j)) (af 1) (af 0)) (tC (.int 1)))) (tC (.int 1))) (aN 2)) (aM (cK (bH (tOp rEq (af 0) (tC (.int 0))))
 (bw (af 2))
 bI) (bw (tCB NX (ag (af 2) (ag (tOp (rI0 fun i j=>.int (i-j)) (KH K "int" yG (tOp (rI0 fun i j=>.int (Builtin.bitAnd i j)) (af 0) (tUn (rU fun i=>.int (-i)) (af 0)))) (tC (.int 1))) aF))))))
abbrev nS:List Str:=["lo","hi","blocks","first","free"]
def l6 (K:Frag) (eL:Sp):TS :=
 (aM (bQ (cD aF) (aN 2)) (aM (bQ (af 0) (aN 3)) (aM (sT (bH (tOp (rI0 fun i j=>.bl (decide (i<=j))) (af 3) (af 1)))
 (aM (bQ (bj eL [] E0 (ag (af 3) (ag (af 1) aF))) (aN 4)) (aM (dF (tBM K "list" dR (af 2) (ag (xR (ag (af 3) (ag (af 4) aF))) aF))) (GQ 3 (tOp (rI uf fun i j=>.int (i*2 ^ j.toNat)) (tC (.int 1)) (af 4)) (ipI fun i j=>i+j))))) (bw (af 2)))))
abbrev pH:List Str:=["edges","blocks","i"]
def nu (K:Frag) (bu:Sp):TS :=
 (aM (bQ (cD aF) (aN 1)) (aM (kI (CV (ag (tC (.int 0)) (ag (tCB (eP K) (ag (af 0) aF)) (ag (tC (.int 2)) aF)))) (aN 2)
 (dF (tBM K "list" uL (af 1) (ag (bj bu [] E0 (ag (tOp (ez K) (af 0) (af 2)) (ag (tOp (rI0 fun i j=>.int (i-j)) (tOp (ez K) (af 0) (tOp (rI0 fun i j=>.int (i+j)) (af 2) (tC (.int 1)))) (tC (.int 1))) aF))) aF)))) (bw (af 1))))
abbrev nO:List Str:=["blocks","answer","first","free"]
def lY (K:Frag):TS :=
 (aM (bQ (cD (ag (tC (.int 0)) (ag (tCB (eP K) (ag (af 0) aF)) aF))) (aN 1)) (aM (kI (g9 K (af 0)) (yg K 2 (gh (aN 2) (gh (aN 3) yh)))
 (aM (dF (tBM K "list" dR (af 1) (ag (af 2) aF))) (dF (tBM K "list" dR (af 1) (ag (af 3) aF))))) (bw (af 1))))
abbrev pG:List Str:=["number"]
def nr (K:Frag):TS :=
 (bw (fR (rI0 fun i j=>.bl (decide (i<=j))) (rI0 fun i j=>.bl (decide (i<=j))) (tC (.int 0)) (af 0) (tC (.int (4294967295)))))
abbrev qY:List Str:=["source","target","kind","port"]
def oN (K:Frag) (bV:Sp):TS :=
 (bw (lq (bj bV [] E0 (ag (af 0) aF)) (lq (bj bV [] E0 (ag (af 1) aF)) (lq (fR (rI0 fun i j=>.bl (decide (i<=j))) (rI0 fun i j=>.bl (decide (i<=j))) (tC (.int 0)) (af 2) (tC (.int (255)))) (fR (rI0 fun i j=>.bl (decide (i<=j))) (rI0 fun i j=>.bl (decide (i<=j))) (tC (.int 0)) (af 3) (tC (.int (65535))))))))
abbrev iZ:List Str:=["source","target","kind","port","addresses"]
def hJ (K:Frag):TS :=
 (aM (bQ (tOp (rI0 fun i j=>.int (Builtin.bitOr i j)) (tOp (rI uf fun i j=>.int (i*2 ^ j.toNat)) (af 0) (tC (.int (32)))) (af 1)) (aN 4)) (bw (tOp (rI0 fun i j=>.int (Builtin.bitOr i j)) (tOp (rI uf fun i j=>.int (i*2 ^ j.toNat)) (tOp (rI0 fun i j=>.int (Builtin.bitOr i j)) (tOp (rI uf fun i j=>.int (i*2 ^ j.toNat)) (af 4) (tC (.int (8)))) (af 2)) (tC (.int (16)))) (af 3))))
abbrev px:List Str:=["number","kinds","targets","sources"]
def m9 (K:Frag):TS :=
 (aM (bQ (tOp (rI (fun _ j=>0<=j) fun i j=>.int (i / 2 ^ j.toNat)) (af 0) (tC (.int (16)))) (aN 1)) (aM (bQ (tOp (rI (fun _ j=>0<=j) fun i j=>.int (i / 2 ^ j.toNat)) (af 1) (tC (.int (8)))) (aN 2)) (aM (bQ (tOp (rI (fun _ j=>0<=j) fun i j=>.int (i / 2 ^ j.toNat)) (af 2) (tC (.int (32)))) (aN 3)) (bw (cD (ag (af 3) (ag (tOp (rI0 fun i j=>.int (Builtin.bitAnd i j)) (af 2) (tC (.int (4294967295)))) (ag (tOp (rI0 fun i j=>.int (Builtin.bitAnd i j)) (af 1) (tC (.int (255)))) (ag (tOp (rI0 fun i j=>.int (Builtin.bitAnd i j)) (af 0) (tC (.int (65535)))) aF)))))))))
abbrev nQ:List Str:=["row"]
def l4 (K:Frag) (dB:Sp):TS :=
 (bw (KC K (ag (bj dB [] E0 (ag (tOp (cE K) (af 0) (tC (.int 1))) aF)) (ag (bj dB [] E0 (ag (tOp (cE K) (af 0) (tC (.int 2))) aF)) aF))))
abbrev f9:List Str:=["blocks","bits","first","free"]
def ia (K:Frag):TS :=
 (bw (tLc (g9 K (af 0)) (yg K 2 (gh (aN 2) (gh (aN 3) yh))) Jv (xR (ag (af 2) (ag (tOp (rI uf fun i j=>.int (i*2 ^ j.toNat)) (tOp (rI0 fun i j=>.int (i-j)) (tOp (rI uf fun i j=>.int (i*2 ^ j.toNat)) (tC (.int 1)) (tOp (rI0 fun i j=>.int (i-j)) (af 1) (af 3))) (tC (.int 1))) (af 3)) aF))) [2,3]))
abbrev k8:List Str:=["kind"]
def jN (K:Frag):TS :=
 (bw (tIf (bH (tOp rEq (af 0) (tC (.int (-1))))) (xR (ag (tC (.int 0)) (ag (tC (.int 0)) aF))) (xR (ag (af 0) (ag (tC (.int (255))) aF)))))
abbrev k7:List Str:=["rule","sources","targets","ports","kind","target_fields","port_fields","rows","source","target","port","value","mask"]
def jM (K:Frag) (cU bP bg:Sp):TS :=
 (aM (bQ (bj cU [] E0 (ag (tOp (cE K) (af 0) (tC (.int 3))) aF)) (aN 4)) (aM (bQ (bj bP [] E0 (ag (af 2) (ag (tC (.int (32))) aF))) (aN 5)) (aM (bQ (bj bP [] E0 (ag (af 3) (ag (tC (.int (16))) aF))) (aN 6)) (aM (bQ (cD aF) (aN 7)) (aM (kI (g9 K (bj bP [] E0 (ag (af 1) (ag (tC (.int (32))) aF)))) (aN 8)
 (kI (g9 K (af 5)) (aN 9)
 (kI (g9 K (af 6)) (aN 10)
 (aM (bQ (bj bg [] E0 (ag (tOp (cE K) (af 8) (tC (.int 0))) (ag (tOp (cE K) (af 9) (tC (.int 0))) (ag (tOp (cE K) (af 4) (tC (.int 0))) (ag (tOp (cE K) (af 10) (tC (.int 0))) aF))))) (aN 11)) (aM (bQ (bj bg [] E0 (ag (tOp (cE K) (af 8) (tC (.int 1))) (ag (tOp (cE K) (af 9) (tC (.int 1))) (ag (tOp (cE K) (af 4) (tC (.int 1))) (ag (tOp (cE K) (af 10) (tC (.int 1))) aF))))) (aN 12)) (dF (tBM K "list" dR (af 7) (ag (xR (ag (tOp (cE K) (af 0) (tC (.int 0))) (ag (af 11) (ag (af 12) aF)))) aF)))))))) (bw (af 7)))))))
abbrev pE:List Str:=["number"]
def nj (K:Frag):TS :=
 (bw (lq (tOp rNe (af 0) (tC (.int 0))) (tOp rEq (tOp (rI0 fun i j=>.int (Builtin.bitAnd i j)) (af 0) (tOp (rI0 fun i j=>.int (i-j)) (af 0) (tC (.int 1)))) (tC (.int 0)))))
abbrev k9:List Str:=["first","second"]
def jO (K:Frag) (eJ:Sp):TS :=
 (bw (lq (tOp rEq (tOp (cE K) (af 0) (tC (.int 0))) (tOp (cE K) (af 1) (tC (.int 0)))) (lq (tOp rEq (tOp (cE K) (af 0) (tC (.int 2))) (tOp (cE K) (af 1) (tC (.int 2)))) (bj eJ [] E0 (ag (tOp (rI0 fun i j=>.int (Builtin.bitXor i j)) (tOp (cE K) (af 0) (tC (.int 1))) (tOp (cE K) (af 1) (tC (.int 1)))) aF)))))
abbrev tY:List Str:=["first","second","bit"]
def p6 (K:Frag):TS :=
 (aM (bQ (tOp (rI0 fun i j=>.int (Builtin.bitXor i j)) (tOp (cE K) (af 0) (tC (.int 1))) (tOp (cE K) (af 1) (tC (.int 1)))) (aN 2)) (bw (xR (ag (tOp (cE K) (af 0) (tC (.int 0))) (ag (tOp (rI0 fun i j=>.int (Builtin.bitAnd i j)) (tOp (cE K) (af 0) (tC (.int 1))) (tOp (cE K) (af 1) (tC (.int 1)))) (ag (tOp (rI0 fun i j=>.int (Builtin.bitXor i j)) (tOp (cE K) (af 0) (tC (.int 2))) (af 2)) aF))))))
abbrev qX:List Str:=["rows","joined","row","latest"]
def oM (K:Frag) (cV fP:Sp):TS :=
 (aM (bQ (cD aF) (aN 1)) (aM (kI (g9 K (af 0)) (aN 2)
 (aM (bQ (af 2) (aN 3)) (aM (sT (vN (Kz K (af 1)) (tB (bj cV [] E0 (ag (tOp (ez K) (af 1) (tUn (rU fun i=>.int (-i)) (tC (.int 1)))) (ag (af 3) aF)))))
 (bQ (bj fP [] E0 (ag (KH K "list" Q3 (af 1)) (ag (af 3) aF))) (aN 3))) (dF (tBM K "list" dR (af 1) (ag (af 3) aF)))))) (bw (af 1))))
abbrev Ia:List Str:=["rows","end"]
def Dj (K:Frag):TS :=
 (aM (bQ (tCB (eP K) (ag (af 0) aF)) (aN 1)) (aM (sT (vN (bH (tOp (rI0 fun i j=>.bl (decide (j<i))) (af 1) (tC (.int 0)))) (bH (tOp rEq (tOp (cE K) (tOp (ez K) (af 0) (tOp (rI0 fun i j=>.int (i-j)) (af 1) (tC (.int 1)))) (tC (.int 0))) (tC (.int 0)))))
 (GQ 1 (tC (.int 1)) (ipI fun i j=>i-j))) (bw (tSl (G4 K) (af 0) yE (sA (af 1))))))
abbrev t7:List Str:=["rows","packet","place","row"]
def p9 (K:Frag):TS :=
 (aM (kI (IP K (ag (af 0) aF)) (yg K 2 (gh (aN 2) (gh (aN 3) yh)))
 (cK (bH (tOp rEq (tOp (rI0 fun i j=>.int (Builtin.bitAnd i j)) (af 1) (tOp (cE K) (af 3) (tC (.int 2)))) (tOp (cE K) (af 3) (tC (.int 1)))))
 (bw (af 2))
 bI)) (bw (tUn (rU fun i=>.int (-i)) (tC (.int 1)))))
abbrev nR:List Str:=["fields","filed","inner","value","mask","by_value"]
def l5 (K:Frag):TS :=
 (aM (bQ (af 1) (aN 2)) (kI (g9 K (af 0)) (yg K 2 (gh (aN 3) (gh (aN 4) yh)))
 (aM (bQ (tBM K "dict" uJ (af 2) (ag (af 4) (ag kX aF))) (aN 5)) (bQ (tBM K "dict" uJ (af 5) (ag (af 3) (ag kX aF))) (aN 2)))))
abbrev j4:List Str:=["files","value","mask","found","filed","other","by_value"]
def jn (K:Frag):TS :=
 (aM (bQ (cD aF) (aN 3)) (aM (kI (g9 K (af 0)) (aN 4)
 (KA (kI (Hs (af 4)) (yg K 2 (gh (aN 5) (gh (aN 6) yh)))
 (cK (vN (bH (tOp rEq (tOp (rI0 fun i j=>.int (Builtin.bitAnd i j)) (af 5) (af 2)) (af 5))) (tB (KG (tOp (rI0 fun i j=>.int (Builtin.bitAnd i j)) (af 1) (af 5)) (af 6))))
 (dF (tBM K "list" dR (af 3) (ag (qb (af 6) (tOp (rI0 fun i j=>.int (Builtin.bitAnd i j)) (af 1) (af 5))) aF)))
 bI)))) (bw (af 3))))
abbrev pF:List Str:=["fields","filed","files","value","mask"]
def nq (K:Frag) (cJ:Sp):TS :=
 (aM (bQ (cD (ag (af 1) aF)) (aN 2)) (aM (kI (g9 K (af 0)) (yg K 2 (gh (aN 3) (gh (aN 4) yh)))
 (bQ (bj cJ [] E0 (ag (af 2) (ag (af 3) (ag (af 4) aF)))) (aN 2))) (bw (tOp (rI0 fun i j=>.bl (decide (j<i))) (tCB (eP K) (ag (af 2) aF)) (tC (.int 0))))))
abbrev Ib:List Str:=["rows","kept","filed","row","fields"]
def Dk (K:Frag) (bT eK dH:Sp):TS :=
 (aM (bQ (cD aF) (aN 1)) (aM (bQ kX (aN 2)) (aM (kI (g9 K (af 0)) (aN 3)
 (aM (bQ (bj bT [] E0 (ag (af 3) aF)) (aN 4)) (cK (nB (tB (bj eK [] E0 (ag (af 4) (ag (af 2) aF)))))
 (aM (dF (tBM K "list" dR (af 1) (ag (af 3) aF))) (dF (bj dH [] E0 (ag (af 4) (ag (af 2) aF)))))
 bI))) (bw (af 1)))))
abbrev pL:List Str:=["self","too_many","raw_count","rows"]
def nA (K:Frag):TS :=
 (aM (mr K (af 0) (af 1) "too_many") (aM (mr K (af 0) (af 2) "raw_count") (mr K (af 0) (af 3) "rows")))
abbrev j3:List Str:=["parts","known_edges","edges","form","first","second","touched"]
def jm (K:Frag) (bJ b9 gx:Sp):TS :=
 (aM (bQ (cD aF) (aN 2)) (aM (kI (g9 K (af 0)) (yg K 3 (gh (aN 3) (gh (aN 4) (gh (aN 5) yh))))
 (aM (bQ (tIf (tB (bj bJ [] E0 (ag (af 3) aF))) (cD (ag (af 4) (ag (tOp (rI0 fun i j=>.int (i+j)) (af 5) (tC (.int 1))) aF))) (qb (af 1) (af 4))) (aN 6)) (bQ (bj gx [] E0 (ag (af 2) (ag (af 6) (ag (bj b9 [] E0 (ag (af 3) aF)) aF)))) (aN 2)))) (bw (af 2))))
abbrev pB:List Str:=["parts","inside","address","yes","form","first","second","touched"]
def nh (K:Frag) (bJ b9:Sp):TS :=
 (aM (bQ (tC (.bl false)) (aN 3)) (aM (kI (g9 K (af 0)) (yg K 3 (gh (aN 4) (gh (aN 5) (gh (aN 6) yh))))
 (aM (bQ (tIf (tB (bj bJ [] E0 (ag (af 4) aF))) (fR (rI0 fun i j=>.bl (decide (i<=j))) (rI0 fun i j=>.bl (decide (i<=j))) (af 5) (af 2) (af 6)) (qb (af 1) (af 5))) (aN 7)) (cK (tB (af 7))
 (bQ (bj b9 [] E0 (ag (af 4) aF)) (aN 3))
 bI))) (bw (af 3))))
abbrev n6:List Str:=["self"]
def mj (K:Frag):TS :=
 (aM (mr K (af 0) (tC (.int 0)) "most") (aM (mr K (af 0) kX "groups") (aM (mr K (af 0) (cD aF) "rules") (aM (mr K (af 0) kX "known_edges") (mr K (af 0) (tC .non) "known_table")))))
abbrev i8:List Str:=["self"]
def ig (K:Frag):TS :=
 (bw (tOp (rI0 fun i j=>.bl (decide (j<i))) (d6 K (af 0) "most") (tC (.int 0))))
abbrev ip:List Str:=["self","most"]
def gK (K:Frag):TS :=
 (aM (mr K (af 0) (af 1) "most") (aM (mr K (af 0) kX "groups") (aM (mr K (af 0) (cD aF) "rules") (aM (mr K (af 0) kX "known_edges") (mr K (af 0) (tC .non) "known_table")))))
abbrev i6:List Str:=["self","number","parts"]
def ic (K:Frag):TS :=
 (aM (Fn (d6 K (af 0) "groups") (af 1) (af 2)) (aM (mr K (af 0) kX "known_edges") (mr K (af 0) (tC .non) "known_table")))
abbrev il:List Str:=["self","number"]
def gJ (K:Frag):TS :=
 (aM (dF (GP (d6 K (af 0) "groups") (af 1))) (aM (mr K (af 0) kX "known_edges") (mr K (af 0) (tC .non) "known_table")))
abbrev jH:List Str:=["self","place","rule"]
def iV (K:Frag):TS :=
 (aM (dF (tBM K "list" D0 (d6 K (af 0) "rules") (ag (af 1) (ag (af 2) aF)))) (mr K (af 0) (tC .non) "known_table"))
abbrev i9:List Str:=["self","place"]
def ij (K:Frag):TS :=
 (aM (dF (tBM K "list" DZ (d6 K (af 0) "rules") (ag (af 1) aF))) (mr K (af 0) (tC .non) "known_table"))
abbrev i7:List Str:=["self","place","target","rule"]
def ie (K:Frag):TS :=
 (aM (bQ (tBM K "list" DZ (d6 K (af 0) "rules") (ag (af 1) aF)) (aN 3)) (aM (dF (tBM K "list" D0 (d6 K (af 0) "rules") (ag (af 2) (ag (af 3) aF)))) (mr K (af 0) (tC .non) "known_table")))
abbrev jG:List Str:=["self","number","other"]
def iU (K:Frag) (cI:Sp):TS :=
 (aM (kI (g9 K (tCB zA (ag (d6 K (af 0) "groups") aF))) (aN 2)
 (cK (vN (bH (tOp (rI0 fun i j=>.bl (decide (i<=j))) (af 2) (af 1))) (tB (iG (af 2) (d6 K (af 0) "known_edges"))))
 (Fn (d6 K (af 0) "known_edges") (af 2) (bj cI [] E0 (ag (qb (d6 K (af 0) "groups") (af 2)) (ag (d6 K (af 0) "known_edges") aF))))
 bI)) (bw (qb (d6 K (af 0) "known_edges") (af 1))))
abbrev gb:List Str:=["self","side"]
def fG (K:Frag) (ah:Addr) (aA:Sp):TS :=
 (bw (tIf (bH (tOp rEq (af 1) (tC (.int (-1))))) (cD (ag (tC (.int 0)) (ag (tOp (rI0 fun i j=>.int (i+j)) (tC (.int (4294967295))) (tC (.int 1))) aF))) (fA ah "edges_of" aA [] E0 (af 0) (ag (af 1) aF))))
abbrev pD:List Str:=["switch","raw","rule","source_edges","target_edges","sources","targets","ports"]
def ni (K:Frag) (ah:Addr) (aX:Addr) (bE bW bu dC cT lD fj mO:Sp):TS :=
 (aM (bQ (cD aF) (aN 1)) (aM (kI (g9 K (d6 K (af 0) "rules")) (aN 2)
 (aM (bQ (fA ah "edges_of_side" bE [] E0 (af 0) (ag (tOp (cE K) (af 2) (tC (.int 1))) aF)) (aN 3)) (aM (bQ (fA ah "edges_of_side" bE [] E0 (af 0) (ag (tOp (cE K) (af 2) (tC (.int 2))) aF)) (aN 4)) (cK (vN (Kz K (af 3)) (Kz K (af 4)))
 (aM (bQ (bj bW [] E0 (ag (af 3) aF)) (aN 5)) (aM (bQ (bj bW [] E0 (ag (af 4) aF)) (aN 6)) (aM (bQ (bj bu [] E0 (ag (tOp (cE K) (af 2) (tC (.int 4))) (ag (tOp (cE K) (af 2) (tC (.int 5))) aF))) (aN 7)) (aM (cK (bH (tOp (rI0 fun i j=>.bl (decide (j<i))) (tOp (rI0 fun i j=>.int (i+j)) (tCB (eP K) (ag (af 1) aF)) (tOp (rI Im fun i j=>.int (i*j)) (tOp (rI Im fun i j=>.int (i*j)) (tCB (eP K) (ag (af 5) aF)) (tCB (eP K) (ag (af 6) aF))) (tCB (eP K) (ag (af 7) aF)))) (d6 K (af 0) "most")))
 (bw (sC aX dC [] E0 (ag (tC (.bl true)) (ag (tC (.int 0)) (ag (cD aF) aF)))))
 bI) (dF (tBM K "list" uL (af 1) (ag (bj cT [] E0 (ag (af 2) (ag (af 5) (ag (af 6) (ag (af 7) aF))))) aF)))))))
 bI)))) (bw (sC aX dC [] E0 (ag (tC (.bl false)) (ag (tCB (eP K) (ag (af 1) aF)) (ag (bj mO [] E0 (ag (bj lD [] E0 (ag (bj fj [] E0 (ag (bj lD [] E0 (ag (af 1) aF)) aF)) aF)) aF)) aF)))))))
abbrev ik:List Str:=["self"]
def gI (K:Frag) (eI:Sp):TS :=
 (aM (cK (tB (OO (d6 K (af 0) "known_table")))
 (mr K (af 0) (bj eI [] E0 (ag (af 0) aF)) "known_table")
 bI) (bw (d6 K (af 0) "known_table")))
abbrev fK:List Str:=["self","address","inside","number"]
def fu (K:Frag) (eF:Sp):TS :=
 (aM (bQ kX (aN 2)) (aM (kI (g9 K (tCB zA (ag (d6 K (af 0) "groups") aF))) (aN 3)
 (Fn (af 2) (af 3) (bj eF [] E0 (ag (qb (d6 K (af 0) "groups") (af 3)) (ag (af 2) (ag (af 1) aF)))))) (bw (af 2))))
abbrev nP:List Str:=["switch","number","part"]
def lZ (K:Frag) (bJ bA:Sp):TS :=
 (aM (cK (bH (tOp (rI0 fun i j=>.bl (decide (i<j))) (tCB (eP K) (ag (af 2) aF)) (tC (.int 3))))
 (bw (tUn (rU fun i=>.int (-i)) (tC (.int 2))))
 bI) (aM (cK (tB (bj bJ [] E0 (ag (tOp (cE K) (af 2) (tC (.int 0))) aF)))
 (bw (tIf (bH (oQ (rI0 fun i j=>.bl (decide (i<=j))) (rI0 fun i j=>.bl (decide (i<=j))) (rI0 fun i j=>.bl (decide (i<=j))) (tC (.int 0)) (tOp (cE K) (af 2) (tC (.int 1))) (tOp (cE K) (af 2) (tC (.int 2))) (tC (.int (4294967295))))) (tC (.int 0)) (tUn (rU fun i=>.int (-i)) (tC (.int 2)))))
 bI) (aM (cK (tOr (nB (tB (bj bA [] E0 (ag (tOp (cE K) (af 2) (tC (.int 0))) aF)))) (bH (tOp rNe (tOp (cE K) (af 2) (tC (.int 2))) (tC (.int 0)))))
 (bw (tUn (rU fun i=>.int (-i)) (tC (.int 2))))
 bI) (bw (tIf (vN (tB (KG (tOp (cE K) (af 2) (tC (.int 1))) (d6 K (af 0) "groups"))) (bH (tOp (rI0 fun i j=>.bl (decide (i<j))) (tOp (cE K) (af 2) (tC (.int 1))) (af 1)))) (tC (.int 0)) (tUn (rU fun i=>.int (-i)) (tC (.int 3))))))))
abbrev mH:List Str:=["switch","number","listed","parts","i","part","refusal"]
def kT (K:Frag) (ah:Addr) (dG cp:Sp):TS :=
 (aM (cK (tOr (nB (bH (fR (rI0 fun i j=>.bl (decide (i<=j))) (rI0 fun i j=>.bl (decide (i<=j))) (tC (.int 0)) (af 1) (tC (.int (15)))))) (bH (tOp (rI0 fun i j=>.bl (decide (j<i))) (tCB (eP K) (ag (af 2) aF)) (tC (.int (48))))))
 (bw (cD (ag (tUn (rU fun i=>.int (-i)) (tC (.int 1))) aF)))
 bI) (aM (bQ (cD aF) (aN 3)) (aM (kI (CV (ag (tC (.int 0)) (ag (tCB (eP K) (ag (af 2) aF)) (ag (tC (.int 3)) aF)))) (aN 4)
 (aM (bQ (tCB (G3 K) (ag (tSl (G4 K) (af 2) (sA (af 4)) (sA (tOp (rI0 fun i j=>.int (i+j)) (af 4) (tC (.int 3))))) aF)) (aN 5)) (aM (bQ (bj dG [] E0 (ag (af 0) (ag (af 1) (ag (af 5) aF)))) (aN 6)) (aM (cK (bH (tOp (rI0 fun i j=>.bl (decide (i<j))) (af 6) (tC (.int 0))))
 (bw (cD (ag (af 6) aF)))
 bI) (dF (tBM K "list" dR (af 3) (ag (af 5) aF))))))) (aM (dF (fA ah "set_group" cp [] E0 (af 0) (ag (af 1) (ag (af 3) aF)))) (bw (cD (ag (tC (.int 0)) aF)))))))
abbrev pz:List Str:=["switch","number","rule"]
def pZ (K:Frag):TS :=
 (bw (tCB (MK K) (ag (tLc (g9 K (d6 K (af 0) "rules")) (aN 2) Jv (DJ (tOp rEq (af 1) (tOp (cE K) (af 2) (tC (.int 1)))) (tOp rEq (af 1) (tOp (cE K) (af 2) (tC (.int 2))))) [2]) aF)))
abbrev pC:List Str:=["switch","number","parts","part"]
def p0 (K:Frag) (bA:Sp):TS :=
 (aM (KA (kI (LB (d6 K (af 0) "groups")) (aN 2)
 (cK (tB (tCB (MK K) (ag (tLc (g9 K (af 2)) (aN 3) Jv (lq (bj bA [] E0 (ag (tOp (cE K) (af 3) (tC (.int 0))) aF)) (tOp rEq (tOp (cE K) (af 3) (tC (.int 1))) (af 1))) [3]) aF)))
 (bw (tC (.bl true)))
 bI))) (bw (tC (.bl false))))
abbrev j5:List Str:=["switch","number"]
def jo (K:Frag) (ah:Addr) (fN fO b7:Sp):TS :=
 (aM (cK (tB (iG (af 1) (d6 K (af 0) "groups")))
 (bw (cD (ag (tUn (rU fun i=>.int (-i)) (tC (.int 1))) aF)))
 bI) (aM (cK (tOr (tB (bj fN [] E0 (ag (af 0) (ag (af 1) aF)))) (tB (bj fO [] E0 (ag (af 0) (ag (af 1) aF)))))
 (bw (cD (ag (tUn (rU fun i=>.int (-i)) (tC (.int 2))) aF)))
 bI) (aM (dF (fA ah "drop_group" b7 [] E0 (af 0) (ag (af 1) aF))) (bw (cD (ag (tC (.int 0)) aF))))))
abbrev nV:List Str:=["switch","number","runs"]
def l9 (K:Frag) (ah:Addr) (aA fi:Sp):TS :=
 (aM (cK (tB (iG (af 1) (d6 K (af 0) "groups")))
 (bw (cD (ag (tUn (rU fun i=>.int (-i)) (tC (.int 1))) aF)))
 bI) (aM (bQ (bj fi [] E0 (ag (fA ah "edges_of" aA [] E0 (af 0) (ag (af 1) aF)) aF)) (aN 2)) (bw (tOp O1 (cD (ag (tC (.int 0)) (ag (tOp (rI Ql fun i j=>.int (i / j)) (tCB (eP K) (ag (af 2) aF)) (tC (.int 2))) aF))) (af 2)))))
abbrev lh:List Str:=["switch","number","address"]
def jQ (K:Frag) (ah:Addr) (bV aU:Sp):TS :=
 (aM (cK (tB (iG (af 1) (d6 K (af 0) "groups")))
 (bw (cD (ag (tUn (rU fun i=>.int (-i)) (tC (.int 1))) aF)))
 bI) (aM (cK (nB (tB (bj bV [] E0 (ag (af 2) aF))))
 (bw (cD (ag (tUn (rU fun i=>.int (-i)) (tC (.int 2))) aF)))
 bI) (bw (cD (ag (tIf (tB (qb (fA ah "groups_holding" aU [] E0 (af 0) (ag (af 2) aF)) (af 1))) (tC (.int 1)) (tC (.int 0))) aF)))))
abbrev nT:List Str:=["switch","number"]
def l7 (K:Frag) (ah:Addr) (aA cz:Sp):TS :=
 (aM (cK (tB (iG (af 1) (d6 K (af 0) "groups")))
 (bw (cD (ag (tUn (rU fun i=>.int (-i)) (tC (.int 1))) aF)))
 bI) (bw (cD (ag (bj cz [] E0 (ag (fA ah "edges_of" aA [] E0 (af 0) (ag (af 1) aF)) aF)) aF))))
abbrev lp:List Str:=["switch","number"]
def jT (K:Frag) (ah:Addr) (aA bW bS:Sp):TS :=
 (aM (cK (tB (iG (af 1) (d6 K (af 0) "groups")))
 (bw (cD (ag (tUn (rU fun i=>.int (-i)) (tC (.int 1))) aF)))
 bI) (bw (bj bS [] E0 (ag (bj bW [] E0 (ag (fA ah "edges_of" aA [] E0 (af 0) (ag (af 1) aF)) aF)) aF))))
abbrev mI:List Str:=["bits","lo","hi","behind"]
def kU (K:Frag) (bu bS:Sp):TS :=
 (aM (cK (nB (bH (fR (rI0 fun i j=>.bl (decide (i<=j))) (rI0 fun i j=>.bl (decide (i<=j))) (tC (.int 1)) (af 0) (tC (.int (32))))))
 (bw (cD (ag (tUn (rU fun i=>.int (-i)) (tC (.int 1))) aF)))
 bI) (aM (bQ (tOp (rI uf fun i j=>.int (i*2 ^ j.toNat)) (tC (.int 1)) (af 0)) (aN 3)) (aM (cK (tOr (nB (bH (fR (rI0 fun i j=>.bl (decide (i<=j))) (rI0 fun i j=>.bl (decide (i<j))) (tC (.int 0)) (af 1) (af 3)))) (nB (bH (fR (rI0 fun i j=>.bl (decide (i<=j))) (rI0 fun i j=>.bl (decide (i<j))) (tC (.int 0)) (af 2) (af 3)))))
 (bw (cD (ag (tUn (rU fun i=>.int (-i)) (tC (.int 1))) aF)))
 bI) (bw (bj bS [] E0 (ag (bj bu [] E0 (ag (af 1) (ag (af 2) aF))) aF))))))
abbrev nU:List Str:=["switch","number","other"]
def l8 (K:Frag) (ah:Addr) (aA:Sp):TS :=
 (aM (cK (tOr (tB (iG (af 1) (d6 K (af 0) "groups"))) (tB (iG (af 2) (d6 K (af 0) "groups"))))
 (bw (cD (ag (tUn (rU fun i=>.int (-i)) (tC (.int 1))) aF)))
 bI) (bw (cD (ag (tIf (bH (tOp (Q4 K) (fA ah "edges_of" aA [] E0 (af 0) (ag (af 1) aF)) (fA ah "edges_of" aA [] E0 (af 0) (ag (af 2) aF)))) (tC (.int 1)) (tC (.int 0))) aF))))
abbrev lj:List Str:=["switch","number","other","outside"]
def jR (K:Frag) (ah:Addr) (aA gx:Sp):TS :=
 (aM (cK (tOr (tB (iG (af 1) (d6 K (af 0) "groups"))) (tB (iG (af 2) (d6 K (af 0) "groups"))))
 (bw (cD (ag (tUn (rU fun i=>.int (-i)) (tC (.int 1))) aF)))
 bI) (aM (bQ (bj gx [] E0 (ag (fA ah "edges_of" aA [] E0 (af 0) (ag (af 1) aF)) (ag (fA ah "edges_of" aA [] E0 (af 0) (ag (af 2) aF)) (ag (tC (.bl false)) aF)))) (aN 3)) (bw (cD (ag (tIf (Kz K (af 3)) (tC (.int 0)) (tC (.int 1))) aF)))))
abbrev pA:List Str:=["calls","found","place","number","end","numbers","parts","start"]
def nc (K:Frag):TS :=
 (aM (bQ (cD aF) (aN 1)) (aM (bQ (tC (.int 0)) (aN 2)) (aM (sT (bH (tOp (rI0 fun i j=>.bl (decide (i<j))) (af 2) (tCB (eP K) (ag (af 0) aF))))
 (aM (bQ (tOp (ez K) (af 0) (af 2)) (aN 3)) (aM (bQ (tOp (rI0 fun i j=>.int (i+j)) (tOp (rI0 fun i j=>.int (i+j)) (af 2) (tC (.int 1))) (tOp (cE K) (KD K widths) (af 3))) (aN 4)) (aM (bQ (tSl (G4 K) (af 0) (sA (tOp (rI0 fun i j=>.int (i+j)) (af 2) (tC (.int 1)))) (sA (af 4))) (aN 5)) (aM (bQ (cD aF) (aN 6)) (aM (cK (bH (tOp rEq (af 3) (tC (.int (1)))))
 (aM (bQ (tOp (rI0 fun i j=>.int (i+j)) (af 4) (tC (.int 1))) (aN 7)) (aM (bQ (tOp (rI0 fun i j=>.int (i+j)) (af 7) (tOp (ez K) (af 0) (af 4))) (aN 4)) (bQ (tSl (G4 K) (af 0) (sA (af 7)) (sA (af 4))) (aN 6))))
 bI) (aM (dF (tBM K "list" dR (af 1) (ag (xR (ag (af 3) (ag (af 5) (ag (af 6) aF)))) aF))) (bQ (af 4) (aN 2))))))))) (bw (af 1)))))
abbrev i4:List Str:=["rule","passes"]
def hZ (K:Frag):TS :=
 (aM (bQ (DJ (tOp rEq (tOp (cE K) (af 0) (tC (.int 0))) (tC (.int 0))) (tOp rEq (tOp (cE K) (af 0) (tC (.int 0))) (tC (.int 1)))) (aN 1)) (bw (lq (af 1) (lq (fR (rI0 fun i j=>.bl (decide (i<=j))) (rI0 fun i j=>.bl (decide (i<=j))) (tC (.int (-1))) (tOp (cE K) (af 0) (tC (.int 3))) (tC (.int (255)))) (oQ (rI0 fun i j=>.bl (decide (i<=j))) (rI0 fun i j=>.bl (decide (i<=j))) (rI0 fun i j=>.bl (decide (i<=j))) (tC (.int 0)) (tOp (cE K) (af 0) (tC (.int 4))) (tOp (cE K) (af 0) (tC (.int 5))) (tC (.int (65535))))))))
abbrev xf:List Str:=["switch","number"]
def sI (K:Frag):TS :=
 (bw (DJ (tOp rEq (af 1) (tC (.int (-1)))) (KG (af 1) (d6 K (af 0) "groups"))))
abbrev nW:List Str:=["switch","place","rule"]
def ma (K:Frag) (ah:Addr) (ck fS cB:Sp):TS :=
 (aM (cK (nB (bH (fR (rI0 fun i j=>.bl (decide (i<=j))) (rI0 fun i j=>.bl (decide (i<=j))) (tC (.int 0)) (af 1) (tCB (eP K) (ag (d6 K (af 0) "rules") aF)))))
 (bw (cD (ag (tUn (rU fun i=>.int (-i)) (tC (.int 1))) aF)))
 bI) (aM (cK (nB (tB (bj ck [] E0 (ag (af 2) aF))))
 (bw (cD (ag (tUn (rU fun i=>.int (-i)) (tC (.int 2))) aF)))
 bI) (aM (cK (tOr (nB (tB (bj fS [] E0 (ag (af 0) (ag (tOp (cE K) (af 2) (tC (.int 1))) aF))))) (nB (tB (bj fS [] E0 (ag (af 0) (ag (tOp (cE K) (af 2) (tC (.int 2))) aF))))))
 (bw (cD (ag (tUn (rU fun i=>.int (-i)) (tC (.int 3))) aF)))
 bI) (aM (cK (bH (tOp (rI0 fun i j=>.bl (decide (j<=i))) (tCB (eP K) (ag (d6 K (af 0) "rules") aF)) (tC (.int (32)))))
 (bw (cD (ag (tUn (rU fun i=>.int (-i)) (tC (.int 4))) aF)))
 bI) (aM (dF (fA ah "add_rule" cB [] E0 (af 0) (ag (af 1) (ag (af 2) aF)))) (bw (cD (ag (tC (.int 0)) aF))))))))
abbrev AN:List Str:=["switch","place"]
def vI (K:Frag):TS :=
 (bw (fR (rI0 fun i j=>.bl (decide (i<=j))) (rI0 fun i j=>.bl (decide (i<j))) (tC (.int 0)) (af 1) (tCB (eP K) (ag (d6 K (af 0) "rules") aF))))
abbrev lg:List Str:=["switch","place"]
def jP (K:Frag) (ah:Addr) (dy cv:Sp):TS :=
 (aM (cK (nB (tB (bj dy [] E0 (ag (af 0) (ag (af 1) aF)))))
 (bw (cD (ag (tUn (rU fun i=>.int (-i)) (tC (.int 1))) aF)))
 bI) (aM (dF (fA ah "drop_rule" cv [] E0 (af 0) (ag (af 1) aF))) (bw (cD (ag (tC (.int 0)) aF)))))
abbrev nY:List Str:=["switch","place","target"]
def me (K:Frag) (ah:Addr) (dy cq:Sp):TS :=
 (aM (cK (tOr (nB (tB (bj dy [] E0 (ag (af 0) (ag (af 1) aF))))) (nB (tB (bj dy [] E0 (ag (af 0) (ag (af 2) aF))))))
 (bw (cD (ag (tUn (rU fun i=>.int (-i)) (tC (.int 1))) aF)))
 bI) (aM (dF (fA ah "move_rule" cq [] E0 (af 0) (ag (af 1) (ag (af 2) aF)))) (bw (cD (ag (tC (.int 0)) aF)))))
abbrev qZ:List Str:=["side","holding"]
def oO (K:Frag):TS :=
 (bw (DJ (tOp rEq (af 0) (tC (.int (-1)))) (qb (af 1) (af 0))))
abbrev pK:List Str:=["switch","source","target","kind","port","with_source","with_target","place","rule","sides_fit"]
def nz (K:Frag) (ah:Addr) (cx aU eh:Sp):TS :=
 (aM (cK (nB (tB (bj cx [] E0 (ag (af 1) (ag (af 2) (ag (af 3) (ag (af 4) aF)))))))
 (bw (cD (ag (tUn (rU fun i=>.int (-i)) (tC (.int 1))) aF)))
 bI) (aM (bQ (fA ah "groups_holding" aU [] E0 (af 0) (ag (af 1) aF)) (aN 5)) (aM (bQ (fA ah "groups_holding" aU [] E0 (af 0) (ag (af 2) aF)) (aN 6)) (aM (kI (IP K (ag (d6 K (af 0) "rules") aF)) (yg K 2 (gh (aN 7) (gh (aN 8) yh)))
 (aM (bQ (lq (bj eh [] E0 (ag (tOp (cE K) (af 8) (tC (.int 1))) (ag (af 5) aF))) (bj eh [] E0 (ag (tOp (cE K) (af 8) (tC (.int 2))) (ag (af 6) aF)))) (aN 9)) (cK (vN (tB (af 9)) (vN (tOr (bH (tOp rEq (tOp (cE K) (af 8) (tC (.int 3))) (tC (.int (-1))))) (bH (tOp rEq (tOp (cE K) (af 8) (tC (.int 3))) (af 3)))) (bH (fR (rI0 fun i j=>.bl (decide (i<=j))) (rI0 fun i j=>.bl (decide (i<=j))) (tOp (cE K) (af 8) (tC (.int 4))) (af 4) (tOp (cE K) (af 8) (tC (.int 5)))))))
 (bw (cD (ag (tC (.int 0)) (ag (tOp (cE K) (af 8) (tC (.int 0))) (ag (af 7) aF)))))
 bI))) (bw (cD (ag (tC (.int 0)) (ag (tC (.int 0)) (ag (tUn (rU fun i=>.int (-i)) (tC (.int 1))) aF)))))))))
abbrev mG:List Str:=["switch","answer","rule"]
def kS (K:Frag):TS :=
 (aM (bQ (cD (ag (tC (.int 0)) (ag (tCB (eP K) (ag (d6 K (af 0) "rules") aF)) aF))) (aN 1)) (aM (kI (g9 K (d6 K (af 0) "rules")) (aN 2)
 (dF (tBM K "list" (uK K) (af 1) (ag (af 2) aF)))) (bw (af 1))))
abbrev nX:List Str:=["switch","table"]
def md (K:Frag) (ah:Addr) (aS:Sp):TS :=
 (aM (bQ (fA ah "find_table" aS [] E0 (af 0) aF) (aN 1)) (aM (cK (tB (d6 K (af 1) "too_many"))
 (bw (cD (ag (tUn (rU fun i=>.int (-i)) (tC (.int 1))) aF)))
 bI) (bw (cD (ag (tC (.int 0)) (ag (d6 K (af 1) "raw_count") (ag (tCB (eP K) (ag (d6 K (af 1) "rows") aF)) aF)))))))
abbrev pJ:List Str:=["switch","place","table","row","answer","field"]
def ny (K:Frag) (ah:Addr) (aS bT:Sp):TS :=
 (aM (bQ (fA ah "find_table" aS [] E0 (af 0) aF) (aN 2)) (aM (cK (tB (d6 K (af 2) "too_many"))
 (bw (cD (ag (tUn (rU fun i=>.int (-i)) (tC (.int 1))) aF)))
 bI) (aM (cK (nB (bH (fR (rI0 fun i j=>.bl (decide (i<=j))) (rI0 fun i j=>.bl (decide (i<j))) (tC (.int 0)) (af 1) (tCB (eP K) (ag (d6 K (af 2) "rows") aF)))))
 (bw (cD (ag (tUn (rU fun i=>.int (-i)) (tC (.int 2))) aF)))
 bI) (aM (bQ (tOp (ez K) (d6 K (af 2) "rows") (af 1)) (aN 3)) (aM (bQ (cD (ag (tC (.int 0)) (ag (tOp (cE K) (af 3) (tC (.int 0))) aF))) (aN 4)) (aM (kI (g9 K (bj bT [] E0 (ag (af 3) aF))) (aN 5)
 (dF (tBM K "list" (uK K) (af 4) (ag (af 5) aF)))) (bw (af 4))))))))
abbrev nZ:List Str:=["switch","source","target","kind","port","table","place"]
def mf (K:Frag) (ah:Addr) (cx aS bg fQ:Sp):TS :=
 (aM (cK (nB (tB (bj cx [] E0 (ag (af 1) (ag (af 2) (ag (af 3) (ag (af 4) aF)))))))
 (bw (cD (ag (tUn (rU fun i=>.int (-i)) (tC (.int 2))) aF)))
 bI) (aM (bQ (fA ah "find_table" aS [] E0 (af 0) aF) (aN 5)) (aM (cK (tB (d6 K (af 5) "too_many"))
 (bw (cD (ag (tUn (rU fun i=>.int (-i)) (tC (.int 1))) aF)))
 bI) (aM (bQ (bj fQ [] E0 (ag (d6 K (af 5) "rows") (ag (bj bg [] E0 (ag (af 1) (ag (af 2) (ag (af 3) (ag (af 4) aF))))) aF))) (aN 6)) (bw (cD (ag (tC (.int 0)) (ag (tIf (bH (tOp (rI0 fun i j=>.bl (decide (i<j))) (af 6) (tC (.int 0)))) (tC (.int 0)) (tOp (cE K) (tOp (ez K) (d6 K (af 5) "rows") (af 6)) (tC (.int 0)))) (ag (af 6) aF)))))))))
abbrev mJ:List Str:=["switch","most"]
def kW (K:Frag) (ah:Addr) (b8:Sp):TS :=
 (aM (cK (nB (bH (fR (rI0 fun i j=>.bl (decide (i<=j))) (rI0 fun i j=>.bl (decide (i<=j))) (tC (.int 1)) (af 1) (tC (.int (1024))))))
 (bw (cD (ag (tUn (rU fun i=>.int (-i)) (tC (.int 1))) aF)))
 bI) (aM (dF (fA ah "begin_anew" b8 [] E0 (af 0) (ag (af 1) aF))) (bw (cD (ag (tC (.int 0)) aF)))))
abbrev ll:List Str:=["switch","number","numbers","parts"]
def jS (K:Frag) (dj gy dI gT ju:Sp):TS :=
 (aM (cK (bH (tOp rEq (af 1) (tC (.int (1)))))
 (bw (bj dj [] E0 (ag (af 0) (ag (tOp (ez K) (af 2) (tC (.int 0))) (ag (af 3) aF)))))
 bI) (aM (cK (bH (tOp rEq (af 1) (tC (.int (2)))))
 (bw (bj gy [] E0 (ag (af 0) (ag (tOp (ez K) (af 2) (tC (.int 0))) aF))))
 bI) (aM (cK (bH (tOp rEq (af 1) (tC (.int (3)))))
 (bw (bj dI [] E0 (ag (af 0) (ag (tOp (ez K) (af 2) (tC (.int 0))) (ag (tCB (G3 K) (ag (tSl (G4 K) (af 2) (sA (tC (.int 1))) yE) aF)) aF)))))
 bI) (aM (cK (bH (tOp rEq (af 1) (tC (.int (4)))))
 (bw (bj gT [] E0 (ag (af 0) (ag (tOp (ez K) (af 2) (tC (.int 0))) aF))))
 bI) (bw (bj ju [] E0 (ag (af 0) (ag (tOp (ez K) (af 2) (tC (.int 0))) (ag (tOp (ez K) (af 2) (tC (.int 1))) aF)))))))))
abbrev i5:List Str:=["switch","number","numbers"]
def ib (K:Frag) (js gU jq gX dn jr gW:Sp):TS :=
 (aM (cK (bH (tOp rEq (af 1) (tC (.int (6)))))
 (bw (bj js [] E0 (ag (af 0) (ag (tOp (ez K) (af 2) (tC (.int 0))) aF))))
 bI) (aM (cK (bH (tOp rEq (af 1) (tC (.int (7)))))
 (bw (bj gU [] E0 (ag (af 0) (ag (tOp (ez K) (af 2) (tC (.int 0))) (ag (tOp (ez K) (af 2) (tC (.int 1))) aF)))))
 bI) (aM (cK (bH (tOp rEq (af 1) (tC (.int (8)))))
 (bw (bj jq [] E0 (ag (af 0) (ag (tOp (ez K) (af 2) (tC (.int 0))) aF))))
 bI) (aM (cK (bH (tOp rEq (af 1) (tC (.int (9)))))
 (bw (bj gX [] E0 (ag (af 0) (ag (tOp (ez K) (af 2) (tC (.int 0))) aF))))
 bI) (aM (cK (bH (tOp rEq (af 1) (tC (.int (10)))))
 (bw (bj dn [] E0 (ag (tOp (ez K) (af 2) (tC (.int 0))) (ag (tOp (ez K) (af 2) (tC (.int 1))) (ag (tOp (ez K) (af 2) (tC (.int 2))) aF)))))
 bI) (aM (cK (bH (tOp rEq (af 1) (tC (.int (11)))))
 (bw (bj jr [] E0 (ag (af 0) (ag (tOp (ez K) (af 2) (tC (.int 0))) (ag (tOp (ez K) (af 2) (tC (.int 1))) aF)))))
 bI) (bw (bj gW [] E0 (ag (af 0) (ag (tOp (ez K) (af 2) (tC (.int 0))) (ag (tOp (ez K) (af 2) (tC (.int 1))) aF)))))))))))
abbrev jF:List Str:=["switch","number","numbers"]
def iT (K:Frag) (eN jt eM dJ iH:Sp):TS :=
 (aM (cK (bH (tOp rEq (af 1) (tC (.int (13)))))
 (bw (bj eN [] E0 (ag (af 0) (ag (tOp (ez K) (af 2) (tC (.int 0))) (ag (tOp (ez K) (af 2) (tC (.int 1))) (ag (tOp (ez K) (af 2) (tC (.int 2))) (ag (tOp (ez K) (af 2) (tC (.int 3))) aF)))))))
 bI) (aM (cK (bH (tOp rEq (af 1) (tC (.int (14)))))
 (bw (bj jt [] E0 (ag (af 0) aF)))
 bI) (aM (cK (bH (tOp rEq (af 1) (tC (.int (15)))))
 (bw (bj eM [] E0 (ag (af 0) (ag (tOp (ez K) (af 2) (tC (.int 0))) aF))))
 bI) (aM (cK (bH (tOp rEq (af 1) (tC (.int (16)))))
 (bw (bj dJ [] E0 (ag (af 0) (ag (tOp (ez K) (af 2) (tC (.int 0))) (ag (tOp (ez K) (af 2) (tC (.int 1))) (ag (tOp (ez K) (af 2) (tC (.int 2))) (ag (tOp (ez K) (af 2) (tC (.int 3))) aF)))))))
 bI) (bw (bj iH [] E0 (ag (af 0) aF)))))))
abbrev n0:List Str:=["switch","number","numbers","parts"]
def mh (K:Frag) (ah:Addr) (dq cu cW cn cA:Sp):TS :=
 (aM (cK (bH (tOp rEq (af 1) (tC (.int (0)))))
 (bw (bj dq [] E0 (ag (af 0) (ag (tOp (ez K) (af 2) (tC (.int 0))) aF))))
 bI) (aM (cK (nB (tB (fA ah "has_begun" cu [] E0 (af 0) aF)))
 (bw (cD (ag (tC (.int (-20))) aF)))
 bI) (aM (cK (bH (tOp (rI0 fun i j=>.bl (decide (i<=j))) (af 1) (tC (.int (5)))))
 (bw (bj cW [] E0 (ag (af 0) (ag (af 1) (ag (af 2) (ag (af 3) aF))))))
 bI) (aM (cK (bH (tOp (rI0 fun i j=>.bl (decide (i<=j))) (af 1) (tC (.int (12)))))
 (bw (bj cn [] E0 (ag (af 0) (ag (af 1) (ag (af 2) aF)))))
 bI) (bw (bj cA [] E0 (ag (af 0) (ag (af 1) (ag (af 2) aF)))))))))
abbrev xg:List Str:=["calls","switch","given","number","numbers","parts","answer"]
def sJ (K:Frag) (ah:Addr) (dN eE dM:Sp):TS :=
 (aM (bQ (sC ah dN [] E0 aF) (aN 1)) (aM (bQ (cD aF) (aN 2)) (aM (kI (g9 K (bj eE [] E0 (ag (af 0) aF))) (yg K 3 (gh (aN 3) (gh (aN 4) (gh (aN 5) yh))))
 (aM (bQ (bj dM [] E0 (ag (af 1) (ag (af 3) (ag (af 4) (ag (af 5) aF))))) (aN 6)) (aM (dF (tBM K "list" dR (af 2) (ag (tCB (eP K) (ag (af 6) aF)) aF))) (dF (tBM K "list" uL (af 2) (ag (af 6) aF)))))) (bw (af 2)))))
end Sw
set_option maxRecDepth 100000
set_option maxHeartbeats 400000
namespace Sw
open PySem PySem.Spec PyProof.Rows L2 L3 L4 Mt
local macro_rules | `(tactic| walk_at "x1") => `(tactic| first
 |with_reducible refine Qw ?_|with_reducible refine QS ?_|with_reducible refine Ms ?_
 | ((with_reducible refine' Qs (v:=?hvv) ?hxv ?_);(case hxv=>exact rfl))
 |with_reducible refine x_c ?_|with_reducible refine Sb ?_|with_reducible refine Oi ?_|with_reducible refine Sh ?_
 |with_reducible refine Qy ?_|with_reducible refine Oo ?_|with_reducible refine Ol ?_|with_reducible refine R0 ?_|with_reducible refine Om ?_
 |with_reducible refine QI ?_|with_reducible refine QT ?_|with_reducible refine Sa ?_|with_reducible refine QA ?_|with_reducible refine x_b ?_
 |with_reducible refine Si ?_|with_reducible refine OH ?_|with_reducible refine QB ?_|with_reducible refine OC ?_|with_reducible refine Qx ?_|with_reducible refine Ot ?_|with_reducible refine RY ?_
 |with_reducible refine Sf ?_|with_reducible refine OI ?_|with_reducible refine Qz ?_|with_reducible refine Sd ?_|with_reducible refine Mw ?_|with_reducible refine Ku ?_
 | ((with_reducible refine' QR (x:=?hvv) ?hxa ?_);(case hxa=>exact rfl))|with_reducible refine QH ?_
 |with_reducible refine RW ?_|with_reducible refine RZ ?_|with_reducible refine x_call ?_
 | ((with_reducible refine yP ?hxc ?_);(case hxc=>first|decide|assumption|omega))
 | ((with_reducible refine' Ox (xs:=?hvv) ?hxs ?_);(case hxs=>assumption))|((with_reducible refine' Ow (xs:=?hvv) ?hxs ?_);(case hxs=>assumption))
 | ((with_reducible refine' QE (xs:=?hvw) (v:=?hvv) ?hxs ?hxi ?_);(case hxs=>assumption);(case hxi=>first|assumption|exact rfl))|((with_reducible refine' QD (xs:=?hvw) (v:=?hvv) ?hxs ?hxi ?_);(case hxs=>assumption);(case hxi=>first|assumption|exact rfl))
 |with_reducible refine QC ?_|with_reducible refine Qt ?_|with_reducible refine Sj ?_
 | ((with_reducible refine' QO (xs:=?hvv) ?hxl ?_);(case hxl=>assumption))
 |with_reducible refine RX ?_|with_reducible refine Oq ?_|with_reducible refine Mo ?_|with_reducible refine Kr ?_
 |with_reducible refine QK ?_|with_reducible refine Mq ?_|with_reducible refine Sg ?_|with_reducible refine TK ?_|with_reducible refine TJ ?_|with_reducible refine QJ ?_|with_reducible refine Se ?_|with_reducible refine Qr ?_
 | ((with_reducible refine' QF (xs:=?hvv) ?hxs ?_);(case hxs=>assumption))|((with_reducible refine' TH (xs:=?hvv) ?hxs ?_);(case hxs=>assumption))
 |with_reducible refine QL ?_|((with_reducible refine' OB (C:=?hv1) (dx:=?hv2) (fs:=?hv3) (v:=?hv4) ?hxe ?hxc ?hxn ?hxl ?_);(case hxe=>assumption);(case hxc=>assumption);(case hxn=>assumption);(case hxl=>first|assumption|exact rfl))
 |with_reducible refine OG ?_|((with_reducible refine' Mv (kvs:=?hv1) (v:=?hv2) ?hxe ?hxl ?_);(case hxe=>assumption);(case hxl=>assumption))
 |with_reducible refine QM ?_|with_reducible refine Kt ?_|((with_reducible refine' OF (kvs:=?hv1) ?hxe ?_);(case hxe=>assumption))
 |with_reducible refine OD ?_|with_reducible refine OE ?_|with_reducible refine Oj ?_|with_reducible refine Ov ?_
 | ((with_reducible refine' Mp (C:=?hv1) (dx:=?hv2) (fs:=?hv3) ?hxe ?hxl ?_);(case hxe=>assumption);(case hxl=>first|assumption|exact rfl))
 | ((with_reducible refine' Oz (xs:=?hv1) ?hxs ?hxn ?_);(case hxs=>assumption);(case hxn=>exact rfl))|with_reducible refine Mu ?_|with_reducible refine OA ?_
 | ((with_reducible refine Dg ?hxp ?_);(case hxp=>first|(simp only [decide_eq_true_eq,ab,Bool.not_eq_eq_eq_not,Bool.not_true,decide_eq_false_iff_not,jk,aE];omega)|rfl|(simp;done)))
 | ((with_reducible refine Oy ?hxn ?_);(case hxn=>first|(simp only [decide_eq_true_eq,ab,Bool.not_eq_eq_eq_not,Bool.not_true,decide_eq_false_iff_not,jk,aE];omega)|(with_reducible exact aV)|exact aV|(simp;done))))
local macro_rules | `(tactic| walk_at "x") => `(tactic| repeat walk_at "x1")
local macro_rules | `(tactic| walk_at "x1") => `(tactic| first
 |with_reducible refine QQ ?_|with_reducible refine Kv ?_|with_reducible refine Ou ?_|with_reducible refine Qu ?_|with_reducible refine QG ?_|with_reducible refine QP ?_
 | ((with_reducible refine' Oh (xs:=?hvv) ?hxs ?_);(case hxs=>assumption)))
section
variable {K:Frag} {vs:List V} {H:Hp} {Q:VK} {E:XK}
abbrev Ed (Q:VK):Ends:={nx:=fun _ H'=>Q .non H',rt:=Q}
theorem IB (n:Nat):decide ((n:Int)%2=1)=(n%2==1):=by
 rw [bU,decide_eq_true_iff,beq_iff_eq]
 omega
def kK (K:Frag):TS:=(aM (bQ (tIf (bH (tOp rEq (tOp (rI (fun _ j=>0<j) fun i j=>.int (i%j)) (af 6) (tC (.int 2))) (tC (.int 1)))) (af 2) (tOp rEq (tOp (rI (fun _ j=>0<j) fun i j=>.int (i%j)) (af 5) (tC (.int 2))) (tC (.int 1)))) (aN 8)) (cK (bH (tOp rNe (af 8) (af 4)))
 (aM (dF (tBM K "list" dR (af 3) (ag (af 7) aF))) (bQ (af 8) (aN 4)))
 bI))
theorem JR {K:Frag} {Hm:Hp} {D:Ends} {a b p:Addr} {yes inside:Bool} {i j:Nat} {x:Int} {v8:Option V} {m:List Int} {now:Bool} (Np:(if j%2==1 then yes else i%2==1)=now) (hp:Hm p=some (.lst (m.map V.int))) (hz:m.length<sizeLine)
 (h1:(now != inside)=true->D.nx [some (.ref a),some (.ref b),some (.bl yes),some (.ref p),some (.bl now),some (.int i),some (.int j),some (.int x),some (.bl now)] (upd Hm p (.lst ((m++[x]).map V.int))))
 (h2:¬(now != inside)=true->D.nx [some (.ref a),some (.ref b),some (.bl yes),some (.ref p),some (.bl inside),some (.int i),some (.int j),some (.int x),some (.bl now)] Hm) :
 kK K D [some (.ref a),some (.ref b),some (.bl yes),some (.ref p),some (.bl inside),some (.int i),some (.int j),some (.int x),v8] Hm:=by
 have hz':(m.map V.int).length<sizeLine:=by rw [ab];exact hz
 unfold kK
 walk_at "x"
 rw [IB]
 refine D8 (fun e => ?_) (fun e => ?_)
 ·rw [if_pos e] at Np
  subst Np
  walk_at "x"
  refine D8 (fun e => ?_) (fun e => ?_)
  ·walk_at "x"
   refine eT hp hz' ?_
   walk_at "x"
   have q:=h1 e
   rw [bt] at q
   exact q
  ·walk_at "x"
   exact h2 e
 ·rw [if_neg e] at Np
  subst Np
  walk_at "x"
  rw [IB]
  refine D8 (fun e => ?_) (fun e => ?_)
  ·walk_at "x"
   refine eT hp hz' ?_
   walk_at "x"
   have q:=h1 e
   rw [bt] at q
   exact q
  ·walk_at "x"
   exact h2 e
theorem MJ {K:Frag} {H:Hp} {Q:VK} {a b:Addr} {es ts:List Int} {yes:Bool} (ha:SqL K H a (es.map V.int)) (hb:SqL K H b (ts.map V.int)) (he:Inc es) (ht:Inc ts) (hl:es.length+ts.length<sizeLine)
 (k:∀ p m,H p=none->Inc m->(∀ x,x∈m->x∈es\/x∈ts)->(∀ z,odd m z=if odd ts z then yes else odd es z)->Q (.ref p) (upd H p (.lst (m.map V.int)))) :
 yD K (Ed Q) (start EN [.ref a,.ref b,.bl yes]) H:=by
 unfold yD
 walk_at "x"
 refine ⟨aT _,fun p hp => ?_⟩
 walk_at "x"
 obtain ⟨W,hW⟩:∃ W:Nat->L2.St->Hp->Prop,W=fun n σ H'=>∃ (m:List Int) (inside:Bool) (i j:Nat) (v7 v8:Option V),σ = [some (.ref a),some (.ref b),some (.bl yes),some (.ref p),some (.bl inside),some (.int i),some (.int j),v7,v8] /\
  H'=upd H p (.lst (m.map V.int))/\jh es ts yes m inside i j/\m.length<=i+j/\n+i+j=es.length+ts.length:=⟨_,rfl⟩
 refine uh (n:=es.length+ts.length) W ?_ ?_
 ·rw [hW]
  exact ⟨[],false,0,0,none,none,rfl,rfl,jh.start es ts yes,aT _,by omega⟩
 ·intro n σ H' N w hN hN'
  rw [hW] at w
  obtain ⟨m,inside,i,j,v7,v8,rfl,rfl,M,hm,hn⟩:=w
  have ha':SqL K (upd H p (.lst (m.map V.int))) a (es.map V.int):=fe ha hp
  have hb':SqL K (upd H p (.lst (m.map V.int))) b (ts.map V.int):=fe hb hp
  have hp':upd H p (.lst (m.map V.int)) p=some (.lst (m.map V.int)):=aw
  have hi:=M.hi
  have hj:=M.hj
  have fin:∀ (i' j':Nat) (x:Int),i+j<i'+j'->jh es ts yes (if (if j'%2==1 then yes else i'%2==1) != inside then m++[x] else m) (if j'%2==1 then yes else i'%2==1) i' j' ->
   kK K {nx:=N,rt:=Q,bk:=bw (af 3) {nx:=fun _ H'=>Q .non H',rt:=Q},ct:=N} [some (.ref a),some (.ref b),some (.bl yes),some (.ref p),some (.bl inside),some (.int i'),some (.int j'),some (.int x),v8] (upd H p (.lst (m.map V.int))):=by
   intro i' j' x hlt M'
   have hi':=M'.hi
   have hj':=M'.hj
   refine JR rfl hp' (by omega) (fun e => ?_) (fun e => ?_)
   ·rw [if_pos e] at M'
    refine hN (es.length+ts.length-(i'+j')) _ _ (by omega) ?_
    rw [hW]
    refine ⟨_,_,i',j',_,_,rfl,gS,M',?_,by omega⟩
    rw [aG,cg]
    omega
   ·rw [if_neg e] at M'
    have e':(if j'%2==1 then yes else i'%2==1)=inside:=by
     generalize (if j'%2==1 then yes else i'%2==1)=q at e
     cases q<;>cases inside<;>simp at e ⊢
    refine hN (es.length+ts.length-(i'+j')) _ _ (by omega) ?_
    rw [hW]
    rw [e'] at M'
    exact ⟨_,_,i',j',_,_,rfl,rfl,M',by omega,by omega⟩
  rcases aZ i es.length with hie|hie
  ·obtain ⟨x,hx⟩:∃ x,es[i]? = some x:=⟨_,aC hie⟩
   have hxa:=mE hx
   rcases aZ j ts.length with hjt|hjt
   ·obtain ⟨y,hy⟩:∃ y,ts[j]? = some y:=⟨_,aC hjt⟩
    have hya:=mE hy
    rcases Int.lt_trichotomy x y with hxy|hxy|hxy
    ·walk_at "x"
     refine ⟨N,hN',(show aM _ (aM _ (aM _ (kK K))) _ _ _ from ?_)⟩
     walk_at "x"
     exact fin (i+1) j x (by omega) (M.NV he ht hx fun t q=>by rw [hy] at q;cases q;exact hxy)
    ·subst hxy
     walk_at "x"
     refine ⟨N,hN',(show aM _ (aM _ (aM _ (kK K))) _ _ _ from ?_)⟩
     walk_at "x"
     exact fin (i+1) (j+1) x (by omega) (M.QW he ht hx hy)
    ·walk_at "x"
     refine ⟨N,hN',(show aM _ (aM _ (aM _ (kK K))) _ _ _ from ?_)⟩
     walk_at "x"
     exact fin i (j+1) y (by omega) (M.stepT he ht hy fun t q=>by rw [hx] at q;cases q;exact hxy)
   ·walk_at "x"
    refine ⟨N,hN',(show aM _ (aM _ (aM _ (kK K))) _ _ _ from ?_)⟩
    walk_at "x"
    exact fin (i+1) j x (by omega) (M.NV he ht hx fun t q=>by rw [eR hjt] at q;cases q)
  ·rcases aZ j ts.length with hjt|hjt
   ·obtain ⟨y,hy⟩:∃ y,ts[j]? = some y:=⟨_,aC hjt⟩
    have hya:=mE hy
    walk_at "x"
    refine ⟨N,hN',(show aM _ (aM _ (aM _ (kK K))) _ _ _ from ?_)⟩
    walk_at "x"
    exact fin i (j+1) y (by omega) (M.stepT he ht hy fun t q=>by rw [eR hie] at q;cases q)
   ·walk_at "x"
    have e1:i=es.length:=by omega
    have e2:j=ts.length:=by omega
    subst e1 e2
    obtain ⟨d1,d2,d3⟩:=M.done
    exact k p m hp d1 d2 d3
end
section
variable {K:Frag} {vs:List V} {H:Hp} {Q:VK} {E:XK}
def bJ:Sp:=fun vs H Q _=>∃ n:Int,vs=[.int n]/\Q (.bl (decide (n=0) || decide (n=1))) H
def bA:Sp:=fun vs H Q _=>∃ n:Int,vs=[.int n]/\Q (.bl (decide (n=2) || decide (n=3))) H
def b9:Sp:=fun vs H Q _=>∃ n:Int,vs=[.int n]/\Q (.bl (decide (n=0) || decide (n=2))) H
theorem Sn {b c:Bool} {P:Bool->Prop} (h:P (b || c)):if b=true then P true else P c:=by
 cases b<;>simpa using h
theorem Fu (h:bJ vs H Q E):p8 K (Ed Q) (start tZ vs) H:=by
 obtain ⟨n,rfl,h⟩:=h
 unfold p8
 walk_at "x"
 refine D8 (fun e => ?_) (fun e => ?_)
 ·rw [e] at h
  exact h
 ·walk_at "x"
  have e':decide (n=0)=false:=by simpa using e
  rw [e'] at h
  exact h
theorem uE (h:bA vs H Q E):jl K (Ed Q) (start j0 vs) H:=by
 obtain ⟨n,rfl,h⟩:=h
 unfold jl
 walk_at "x"
 refine D8 (fun e => ?_) (fun e => ?_)
 ·rw [e] at h
  exact h
 ·walk_at "x"
  have e':decide (n=2)=false:=by simpa using e
  rw [e'] at h
  exact h
theorem DU (h:b9 vs H Q E):oJ K (Ed Q) (start qV vs) H:=by
 obtain ⟨n,rfl,h⟩:=h
 unfold oJ
 walk_at "x"
 refine D8 (fun e => ?_) (fun e => ?_)
 ·rw [e] at h
  exact h
 ·walk_at "x"
  have e':decide (n=0)=false:=by simpa using e
  rw [e'] at h
  exact h
def fi (K:Frag):Sp:=fun vs H Q _=>∃ (a:Addr) (es:List Int),vs=[.ref a]/\SqL K H a (es.map V.int)/\dY es/\es.length<1000000/\∀ p,H p=none->Q (.ref p) (upd H p (.lst ((gP (bp es)).map V.int)))
theorem DV (h:fi K vs H Q E):oK K (Ed Q) (start qW vs) H:=by
 obtain ⟨a,es,rfl,ha,he,hl,k⟩:=h
 have hz:=sizeLine_eq
 unfold oK
 walk_at "x"
 refine ⟨aT _,fun p hp => ?_⟩
 have ha0:SqL K (upd H p (.lst [])) a (es.map V.int):=fe ha hp
 walk_at "x"
 have hev:=he.wB
 have hpl:=f7 hev
 have hn:(es.length+2-1) / 2=(bp es).length:=by omega
 have rg:=DT (len:=es.length) (c:=2) (by decide) (by decide) (by omega)
 rw [hn] at rg
 rw [ab]
 refine ⟨0,_,2,_,rfl,rg,?_⟩
 refine o7 (n:=(bp es).length) (fun i σ H'=>∃ v:Option V,σ = [some (.ref a),some (.ref p),v]/\H'=upd H p (.lst ((gP ((bp es).take i)).map V.int))) ⟨none,rfl,rfl⟩ (fun i σ H' hi _=>hi) (fun σ H' _=>ay _) ?_ ?_
 ·rintro i x σ H1 H' hi ⟨v,rfl,rfl⟩ ⟨rfl,rfl⟩
  have ha':SqL K (upd H p (.lst ((gP ((bp es).take i)).map V.int))) a (es.map V.int):=fe ha hp
  obtain ⟨e1,h1⟩:∃ e1,es[2*i]? = some e1:=⟨_,aC (by omega)⟩
  obtain ⟨e2,h2⟩:∃ e2,es[2*i+1]? = some e2:=⟨_,aC (by omega)⟩
  have g1:atI (es.map V.int) (0+(i:Nat)*2)=some (.int e1):=by
   have:=mE h1
   have e:((2*i:Nat):Int)=0+(i:Nat)*2:=by omega
   rw [<-e];exact this
  have g2:atI (es.map V.int) (0+(i:Nat)*2+1)=some (.int e2):=by
   have:=mE h2
   have e:((2*i+1:Nat):Int)=0+(i:Nat)*2+1:=by omega
   rw [<-e];exact this
  have hp1:upd H p (.lst ((gP ((bp es).take i)).map V.int)) p=some (.lst ((gP ((bp es).take i)).map V.int)):=aw
  have hq:(bp es)[i]? = some (e1.toNat,(e2-1).toNat):=oX h1 h2
  have b1:=he.bnd e1 (aJ h1)
  have b12:e1<e2:=(jE he.inc h1).2.1 e2 (by
   have:=(ak.mp h2).1
   rw [bq this]
   have e:es[2*i+1]=e2:=(ak.mp h2).2
   rw [e]
   exact ae.mpr (.inl rfl))
  have hz1:((gP ((bp es).take i)).map V.int).length+1<sizeLine:=by
   rw [ab,wA,bL]
   omega
  have et:gP ((bp es).take (i+1))=gP ((bp es).take i)++[e1,e2-1]:=by
   rw [cQ,hq]
   show gP ((bp es).take i++[(e1.toNat,(e2-1).toNat)])=_
   rw [HD]
   have q1:((e1.toNat:Nat):Int)=e1:=by omega
   have q2:(((e2-1).toNat:Nat):Int)=e2-1:=by omega
   rw [q1,q2]
  walk_at "x"
  refine eT hp1 (by omega) ?_
  rw [gS]
  have ha2:SqL K (upd H p (.lst ((gP ((bp es).take i)).map V.int++[.int e1]))) a (es.map V.int):=fe ha hp
  have hp2:upd H p (.lst ((gP ((bp es).take i)).map V.int++[.int e1])) p=some (.lst ((gP ((bp es).take i)).map V.int++[.int e1])):=aw
  walk_at "x"
  refine eT hp2 (by rw [aG,cg];exact hz1) ?_
  rw [gS]
  refine ⟨_,rfl,?_⟩
  rw [et,bt,di]
  rfl
 ·rintro σ H' ⟨v,rfl,rfl⟩
  rw [a8 (ay _)]
  walk_at "x"
  exact k p hp
def cz (K:Frag):Sp:=fun vs H Q _=>∃ (a:Addr) (es:List Int),vs=[.ref a]/\SqL K H a (es.map V.int)/\dY es/\es.length<1000000/\∀ p l,H p=none->Q (.int (Vbcnan.sizeOf_ (bp es):Nat)) (upd H p (.lst l))
theorem Jw:∀ {es:List Int},Inc es->(∀ x,x∈es->0<=x)->es.length%2=0->((bp es).map fun p=>((p.2:Int)+1-p.1)).sum=(Vbcnan.sizeOf_ (bp es):Nat):=by
 intro es h hb he
 unfold Vbcnan.sizeOf_
 rw [Cy,kO]
 have key:∀ {l:List (Nat×Nat)} {b:Nat},Canon b l->(l.map fun p=>((p.2:Int)+1-p.1)).sum=((l.map fun p=>p.2+1-p.1).sum:Nat):=by
  intro l
  induction l with
  |nil=>intro b _;rfl
  |cons p l ih =>
   intro b ⟨h1,h2,h3⟩
   rw [aW,List.sum_cons,aW,List.sum_cons,ih h3]
   omega
 exact key (oY h hb)
theorem sY (h:cz K vs H Q E):iS K (Ed Q) (start gD vs) H:=by
 obtain ⟨a,es,rfl,ha,he,hl,k⟩:=h
 have hz:=sizeLine_eq
 unfold iS
 walk_at "x"
 have hev:=he.wB
 have hpl:=f7 hev
 have hn:(es.length+2-1) / 2=(bp es).length:=by omega
 have rg:=DT (len:=es.length) (c:=2) (by decide) (by decide) (by omega)
 rw [hn] at rg
 rw [ab]
 refine ⟨0,_,2,_,rfl,rg,fun D hD => ?_⟩
 refine Hk (J:=Itc 0 2 (bp es).length) (ys:=((bp es).map fun p=>((p.2:Int)+1-p.1)).map V.int) hD (by simp only [ab];omega) (fun i acc hi=>by simp only [ab] at hi;exact hi) (fun acc=>by simp only [ab];exact ay _) ?_ ?_
 ·rintro i x acc H' N hi ⟨rfl,rfl⟩ hN hac
  simp only [ab] at hi
  have ha':SqL K (upd H D (.lst acc)) a (es.map V.int):=fe ha hD
  obtain ⟨e1,h1⟩:∃ e1,es[2*i]? = some e1:=⟨_,aC (by omega)⟩
  obtain ⟨e2,h2⟩:∃ e2,es[2*i+1]? = some e2:=⟨_,aC (by omega)⟩
  have g1:atI (es.map V.int) (0+(i:Nat)*2)=some (.int e1):=by
   have:=mE h1
   have e:((2*i:Nat):Int)=0+(i:Nat)*2:=by omega
   rw [<-e];exact this
  have g2:atI (es.map V.int) (0+(i:Nat)*2+1)=some (.int e2):=by
   have:=mE h2
   have e:((2*i+1:Nat):Int)=0+(i:Nat)*2+1:=by omega
   rw [<-e];exact this
  have hq:(bp es)[i]? = some (e1.toNat,(e2-1).toNat):=oX h1 h2
  have b1:=he.bnd e1 (aJ h1)
  have b2:=he.bnd e2 (aJ h2)
  have b12:e1<e2:=(jE he.inc h1).2.1 e2 (by
   have:=(ak.mp h2).1
   rw [bq this]
   have e:es[2*i+1]=e2:=(ak.mp h2).2
   rw [e]
   exact ae.mpr (.inl rfl))
  have hy:(((bp es).map fun p=>((p.2:Int)+1-p.1)).map V.int)[i]? = some (.int (e2-e1)):=by
   rw [a9,a9,hq]
   show some (V.int ((((e2-1).toNat:Nat):Int)+1-(e1.toNat:Nat)))=_
   have:(((e2-1).toNat:Nat):Int)+1-(e1.toNat:Nat)=e2-e1:=by omega
   rw [this]
  walk_at "x"
  refine ⟨rfl,?_⟩
  walk_at "x"
  exact hN _ hy
 ·walk_at "x"
  refine Qv (SqL.of aw) ?_
  rw [Jw he.inc (fun x hx=>(he.bnd x hx).1) hev]
  exact k D _ hD
end
section
variable {K:Frag} {vs:List V} {H:Hp} {Q:VK} {E:XK}
def NR (H0 H:Hp) (q:Addr) (c:PC):Prop:=∃ a1 a2,H q=some (.tup [.int c.n,.ref a1,.ref a2])/\H a1=some (.lst (c.xs.map V.int))/\H a2=some (.lst (c.ps.map V.int))/\H0 q=none/\H0 a1=none/\H0 a2=none
def NT (H0 H:Hp) (p:Addr) (cs:List PC):Prop:=H0 p=none/\∃ qs:List Addr,H p=some (.lst (qs.map V.ref))/\Paired (NR H0 H) qs cs
def eE (K:Frag):Sp:=fun vs H Q _=>∃ (a:Addr) (l:List Int) (cs:List PC),vs=[.ref a]/\SqL K H a (l.map V.int)/\l.length<=16000/\GB l 0 cs/\∀ H' p,bf H H'->NT H H' p cs->Q (.ref p) H'
theorem Paired.imp {α β : Type} {R S : α -> β -> Prop} (h:∀ a b,R a b->S a b):∀ {l:List α} {m:List β},Paired R l m->Paired S l m
 |_,_,.nil=>.nil
 |_,_,.cons r t=>.cons (h _ _ r) (Paired.imp h t)
theorem Paired.snoc {α β : Type} {R : α -> β -> Prop} {a : α} {b : β} (h:R a b):∀ {l:List α} {m:List β},Paired R l m->Paired R (l++[a]) (m++[b])
 |_,_,.nil=>.cons h .nil
 |_,_,.cons r t=>.cons r (Paired.snoc h t)
theorem Kw {n:Int} {w:Nat} (h0:0<=n) (h:yQ[n.toNat]? = some w):atI widths n=some (.int w):=by
 have e:n=((n.toNat:Nat):Int):=by omega
 have ew:widths=yQ.map fun (k:Nat)=>V.int (k:Int):=rfl
 rw [e,ew]
 exact vt (by rw [a9,h];rfl)
theorem Sm {H0 H:Hp} {q b:Addr} {c:PC} {o:HO} (h:NR H0 H q c) (hb:H b=none):NR H0 (upd H b o) q c:=by
 obtain ⟨a1,a2,h1,h2,h3,h4⟩:=h
 exact ⟨a1,a2,by rw [au (az h1 hb)];exact h1,by rw [au (az h2 hb)];exact h2,by rw [au (az h3 hb)];exact h3,h4⟩
theorem Bk (h:eE K vs H Q E):nc K (Ed Q) (start pA vs) H:=by
 obtain ⟨a,l,cs,rfl,ha,hll,hf,k⟩:=h
 have hz:=sizeLine_eq
 unfold nc
 walk_at "x"
 refine ⟨aT _,fun F hF => ?_⟩
 walk_at "x"
 obtain ⟨W,hW⟩:∃ W:Nat->L2.St->Hp->Prop,W=fun n σ H'=>∃ (i:Nat) (done rest:List PC) (qs:List Addr) (v3 v4 v5 v6 v7:Option V),σ = [some (.ref a),some (.ref F),some (.int i),v3,v4,v5,v6,v7] /\
  H' F=some (.lst (qs.map V.ref))/\Paired (fun q c=>NR H H' q c/\∃ a1 a2,H' q=some (.tup [.int c.n,.ref a1,.ref a2])/\a1≠F/\a2≠F) qs done/\bf H H'/\GB l i rest/\cs=done++rest/\n+i=l.length/\qs.length<=i:=⟨_,rfl⟩
 refine uh (n:=l.length) W ?_ ?_
 ·rw [hW]
  exact ⟨0,[],cs,[],none,none,none,none,none,rfl,aw,.nil,fun b o e=>by rw [au (az e hF)];exact e,hf,rfl,by omega,by simp⟩
 ·intro n σ H' N w hN hN'
  rw [hW] at w
  obtain ⟨i,done,rest,qs,v3,v4,v5,v6,v7,rfl,hFq,hP,hS,hfr,hcs,hn,hq⟩:=w
  have ha':SqL K H' a (l.map V.int):=hS.seq ha
  cases hfr with
  |done hi =>
   walk_at "x"
   rw [cS] at hcs
   subst hcs
   exact k H' F hS ⟨hF,qs,hFq,Paired.imp (fun q c x=>x.1) hP⟩
  |call hA hlt Rk =>
   rename_i i' c cs'
   have hlen:=hA.fit
   have hn0:=hA.lo
   have hil:i<l.length:=by omega
   have hca:=mE hA.n
   have hwa:=Kw hn0 hA.w
   have e1:((i:Int)+1)=((i+1:Nat):Int):=by omega
   have e2:((i:Int)+1+(c.xs.length:Int))=((i+1+c.xs.length:Nat):Int):=by omega
   have Tx:rT (l.map V.int) (some ((i:Int)+1)) (some ((i:Int)+1+(c.xs.length:Int)))=c.xs.map V.int:=by
    rw [e2,e1,Ja (by omega) hlen]
    have:i+1+c.xs.length-(i+1)=c.xs.length:=by omega
    rw [this,<-hA.xs]
   have fin:∀ (Hc:Hp) (p1 p2:Addr) (e:Int) (v7:Option V),e=(i':Int)->bf H' Hc->Hc p1=some (.lst (c.xs.map V.int))->Hc p2=some (.lst (c.ps.map V.int))->H' p1=none->H' p2=none ->
    (aM (dF (tBM K "list" dR (af 1) (ag (xR (ag (af 3) (ag (af 5) (ag (af 6) aF)))) aF))) (bQ (af 4) (aN 2)))
      {nx:=N,rt:=Q,bk:=bw (af 1) {nx:=fun _ H'=>Q .non H',rt:=Q},ct:=N} [some (.ref a),some (.ref F),some (.int i),some (.int c.n),some (.int e),some (.ref p1),some (.ref p2),v7] Hc:=by
    rintro Hc p1 p2 _ v7 rfl hSc h1 h2 g1 g2
    have hFc:=hSc _ _ hFq
    walk_at "x"
    refine ⟨by show 3<=sizeLine;omega,fun t ht => ?_⟩
    have hFt:upd Hc t (.tup [.int c.n,.ref p1,.ref p2]) F=some (.lst (qs.map V.ref)):=by rw [au (az hFc ht)];exact hFc
    walk_at "x"
    refine eT hFt (by rw [ab];omega) ?_
    walk_at "x"
    refine hN (l.length-i') _ _ (by have:=hA.le;omega) ?_
    rw [hW]
    have nF1:p1≠F:=fun q=>by rw [q,hFq] at g1;cases g1
    have nF2:p2≠F:=fun q=>by rw [q,hFq] at g2;cases g2
    have ntF:t≠F:=fun q=>by rw [q,hFc] at ht;cases ht
    have n1t:p1≠t:=az h1 ht
    have n2t:p2≠t:=az h2 ht
    have keep:∀ b o,H' b=some o->b≠F->upd (upd Hc t (.tup [.int c.n,.ref p1,.ref p2])) F (.lst (qs.map V.ref++[.ref t])) b=some o:=fun b o e hb=>by
     rw [au hb,au (az (hSc _ _ e) ht)]
     exact hSc _ _ e
    have hS':bf H (upd (upd Hc t (.tup [.int c.n,.ref p1,.ref p2])) F (.lst (qs.map V.ref++[.ref t]))):=fun b o e=>keep b o (hS b o e) (az e hF)
    have hqt:upd (upd Hc t (.tup [.int c.n,.ref p1,.ref p2])) F (.lst (qs.map V.ref++[.ref t])) t=some (.tup [.int c.n,.ref p1,.ref p2]):=by rw [au ntF,aw]
    have q1:upd (upd Hc t (.tup [.int c.n,.ref p1,.ref p2])) F (.lst (qs.map V.ref++[.ref t])) p1=some (.lst (c.xs.map V.int)):=by rw [au nF1,au n1t];exact h1
    have q2:upd (upd Hc t (.tup [.int c.n,.ref p1,.ref p2])) F (.lst (qs.map V.ref++[.ref t])) p2=some (.lst (c.ps.map V.int)):=by rw [au nF2,au n2t];exact h2
    have qF:upd (upd Hc t (.tup [.int c.n,.ref p1,.ref p2])) F (.lst (qs.map V.ref++[.ref t])) F=some (.lst ((qs++[t]).map V.ref)):=by
     rw [aw,bt]
     rfl
    refine ⟨i',done++[c],cs',qs++[t],_,_,_,_,_,rfl,qF,Paired.snoc ⟨⟨p1,p2,hqt,q1,q2,(hS.free (hSc.free ht)),hS.free g1,hS.free g2⟩,p1,p2,hqt,nF1,nF2⟩ (Paired.imp (fun q d x => ?_) hP),hS',Rk,by rw [hcs];simp,by have:=hA.le;omega,by simp;omega⟩
    obtain ⟨⟨b1,b2,x1,x2,x3,x4⟩,b1',b2',y1,y2,y3⟩:=x
    rw [x1] at y1
    cases y1
    have hqF:q≠F:=bR x1 hFq (by intro z;cases z)
    exact ⟨⟨b1,b2,keep _ _ x1 hqF,keep _ _ x2 y2,keep _ _ x3 y3,x4⟩,b1,b2,keep _ _ x1 hqF,y2,y3⟩
   walk_at "x"
   refine ⟨N,hN',?_⟩
   walk_at "x"
   refine Mr fun wq hwq => ?_
   have TX:=hwq H'
   walk_at "x"
   refine Cp ha' fun p1 hp1 => ?_
   rw [Tx]
   have ha1:SqL K (upd H' p1 (.lst (c.xs.map V.int))) a (l.map V.int):=fe ha' hp1
   walk_at "x"
   refine ⟨aT _,fun p2 hp2 => ?_⟩
   have ha2:SqL K (upd (upd H' p1 (.lst (c.xs.map V.int))) p2 (.lst [])) a (l.map V.int):=fe ha1 hp2
   have n12:p1≠p2:=fun q=>by rw [<-q,aw] at hp2;cases hp2
   have g2:H' p2=none:=by rw [au n12.symm] at hp2;exact hp2
   have s1:bf H' (upd H' p1 (.lst (c.xs.map V.int))):=fun b o e=>by rw [au (az e hp1)];exact e
   have s2:bf H' (upd (upd H' p1 (.lst (c.xs.map V.int))) p2 (.lst [])):=fun b o e=>by rw [au (az (s1 b o e) hp2)];exact s1 b o e
   have h12:upd (upd H' p1 (.lst (c.xs.map V.int))) p2 (.lst []) p1=some (.lst (c.xs.map V.int)):=by rw [au n12,aw]
   by_cases hc1:c.n=1
   ·obtain ⟨k1,k2,k3⟩:=hA.cnt hc1
    have hcb:=mE k1
    rw [<-e2] at hcb
    have hle:=hA.le
    have e3:((i:Int)+1+(c.xs.length:Int)+1)=((i+1+c.xs.length+1:Nat):Int):=by omega
    have e4:((i:Int)+1+(c.xs.length:Int)+1+(c.ps.length:Int))=((i+1+c.xs.length+1+c.ps.length:Nat):Int):=by omega
    have Tw:rT (l.map V.int) (some ((i:Int)+1+(c.xs.length:Int)+1)) (some ((i:Int)+1+(c.xs.length:Int)+1+(c.ps.length:Int)))=c.ps.map V.int:=by
     rw [e4,e3,Ja (by omega) (by omega)]
     have:i+1+c.xs.length+1+c.ps.length-(i+1+c.xs.length+1)=c.ps.length:=by omega
     rw [this,<-k2]
    have tl:=fin
    generalize (aM (dF (tBM K "list" dR (af 1) (ag (xR (ag (af 3) (ag (af 5) (ag (af 6) aF)))) aF))) (bQ (af 4) (aN 2)))=tail at tl ⊢
    walk_at "x"
    refine Cp ha2 fun p3 hp3 => ?_
    rw [Tw]
    walk_at "x"
    have g3:H' p3=none:=s2.free hp3
    have n13:p1≠p3:=az h12 hp3
    exact tl _ p1 p3 _ _ (by omega) (fun b o e=>by rw [au (az (s2 b o e) hp3)];exact s2 b o e) (by rw [au n13];exact h12) aw hp1 g3
   ·have tl:=fin
    generalize (aM (dF (tBM K "list" dR (af 1) (ag (xR (ag (af 3) (ag (af 5) (ag (af 6) aF)))) aF))) (bQ (af 4) (aN 2)))=tail at tl ⊢
    obtain ⟨k1,k2⟩:=hA.no hc1
    walk_at "x"
    refine tl _ p1 p2 _ _ (by omega) s2 h12 (by rw [aw,k1];rfl) hp1 g2
end
section
variable {K:Frag} {vs:List V} {H:Hp} {Q:VK} {E:XK}
def uP:Vbcnan.Part->List V
 |.add lo hi=>[.int 0,.int lo,.int hi]
 |.sub lo hi=>[.int 1,.int lo,.int hi]
 |.with_ g=>[.int 2,.int g,.int 0]
 |.but g=>[.int 3,.int g,.int 0]
def Jh (H:Hp) (a:Addr) (ps:List Vbcnan.Part):Prop:=∃ qs:List Addr,H a=some (.lst (qs.map V.ref))/\Paired (fun q p=>H q=some (.tup (uP p))) qs ps
theorem Paired.get {α β : Type} {R : α -> β -> Prop}:∀ {l:List α} {m:List β} {i:Nat} {a : α},Paired R l m->l[i]? = some a->∃ b,m[i]? = some b/\R a b
 |_,_,_,_,.nil,h=>by simp at h
 |_,_,0,_,.cons r _,h=>by simp at h;subst h;exact ⟨_,rfl,r⟩
 |_,_,i+1,a,.cons _ t,h=>by
  obtain ⟨b,h1,h2⟩:=Paired.get (i:=i) (a:=a) t (by simpa using h)
  exact ⟨b,by simpa using h1,h2⟩
theorem cX {qs:List Addr} {i:Nat} {x:V} (h:(qs.map V.ref)[i]? = some x):∃ q,x=.ref q/\qs[i]? = some q:=by
 rw [a9] at h
 cases e:qs[i]? with
 |none=>rw [e] at h;cases h
 |some q=>rw [e] at h;exact ⟨q,(ax h).symm,rfl⟩
theorem take_snoc {α : Type} {l:List α} {i:Nat} {x : α} (h:l[i]? = some x):l.take (i+1)=l.take i++[x]:=by
 rw [cQ,h]
 rfl
def gx (K:Frag):Sp:=fun vs H Q _=>∃ (a b:Addr) (es ts:List Int) (yes:Bool),vs=[.ref a,.ref b,.bl yes]/\SqL K H a (es.map V.int)/\SqL K H b (ts.map V.int)/\Inc es/\Inc ts/\es.length+ts.length<sizeLine /\
 ∀ p m,H p=none->Inc m->(∀ x,x∈m->x∈es\/x∈ts)->(∀ z,odd m z=if odd ts z then yes else odd es z)->Q (.ref p) (upd H p (.lst (m.map V.int)))
def Kn (H:Hp) (kvs:List (Key×V)) (T:List Int) (before:Nat->List (Nat×Bool)):Vbcnan.Part->Prop
 |.add lo hi=>lo<=hi/\hi<Vbcnan.ALL/\(lo:Int)∈T/\(hi:Int)+1∈T
 |.sub lo hi=>lo<=hi/\hi<Vbcnan.ALL/\(lo:Int)∈T/\(hi:Int)+1∈T
 |.with_ g=>∃ e es,b0 kvs (Sum.inl (g:Int))=some (.ref e)/\H e=some (.lst (es.map V.int))/\dY es/\(∀ x,x∈es->x∈T)/\∀ z:Nat,z<Vbcnan.ALL->odd es z=(before z).any fun x=>x.1==g&&x.2
 |.but g=>∃ e es,b0 kvs (Sum.inl (g:Int))=some (.ref e)/\H e=some (.lst (es.map V.int))/\dY es/\(∀ x,x∈es->x∈T)/\∀ z:Nat,z<Vbcnan.ALL->odd es z=(before z).any fun x=>x.1==g&&x.2
def cI:Sp:=fun vs H Q _=>∃ (a d:Addr) (ps:List Vbcnan.Part) (kvs:List (Key×V)) (T:List Int) (before:Nat->List (Nat×Bool)),vs=[.ref a,.ref d]/\Jh H a ps/\H d=some (.dK kvs)/\(∀ p,p∈ps->Kn H kvs T before p)/\T.length<=1000 /\
 ∀ H' e es,bf H H'->H e=none->H' e=some (.lst (es.map V.int))->dY es->(∀ x,x∈es->x∈T)->(∀ z:Nat,z<Vbcnan.ALL->odd es z=Vbcnan.inParts (before z) z ps)->Q (.ref e) H'
theorem cP {n:Int} {H:Hp} {Q:VK} {E:XK} (h:Q (.bl (decide (n=0) || decide (n=1))) H):bJ ([.int n]++[]) H Q E:=⟨n,rfl,h⟩
theorem fM {n:Int} {H:Hp} {Q:VK} {E:XK} (h:Q (.bl (decide (n=0) || decide (n=2))) H):b9 ([.int n]++[]) H Q E:=⟨n,rfl,h⟩
theorem br {H H':Hp} {p:Addr} {o:HO} (s:bf H H') (hp:H' p=none):bf H (upd H' p o):=fun b u e=>by
 rw [au (az (s b u e) hp)]
 exact s b u e
theorem uF (h:cI vs H Q E):jm K bJ b9 (gx K) (Ed Q) (start j3 vs) H:=by
 obtain ⟨a,d,ps,kvs,T,before,rfl,⟨qs,hqs,hP⟩,hd,hk,hT,k⟩:=h
 have hz:=sizeLine_eq
 unfold jm
 walk_at "x"
 refine ⟨aT _,fun e0 he0 => ?_⟩
 have s0:bf H (upd H e0 (.lst [])):=br (bf.refl H) he0
 have hsq:SqL K (upd H e0 (.lst [])) a (qs.map V.ref):=SqL.of (s0 _ _ hqs)
 walk_at "x"
 refine dO (K:=K) (a:=a) (xs:=qs.map V.ref) (fun i σ H'=>∃ (e:Addr) (es:List Int) (v3 v4 v5 v6:Option V),σ = [some (.ref a),some (.ref d),some (.ref e),v3,v4,v5,v6]/\H' e=some (.lst (es.map V.int))/\H e=none/\bf H H'/\dY es/\(∀ x,x∈es->x∈T)/\∀ z:Nat,z<Vbcnan.ALL->odd es z=Vbcnan.inParts (before z) z (ps.take i))
  ⟨e0,[],none,none,none,none,rfl,aw,he0,s0,dY.nil,fun x hx=>by simp at hx,fun z _=>rfl⟩ (fun i σ H' _ ⟨_,_,_,_,_,_,_,_,_,s,_⟩=>SqL.of (s _ _ hqs)) ?_ ?_
 ·rintro i x σ H' hx ⟨e,es,v3,v4,v5,v6,rfl,he,hne,hS,hE,wo,nM⟩
  obtain ⟨q,rfl,hq⟩:=cX hx
  obtain ⟨p,hp,hqp⟩:=Paired.get hP hq
  have hkp:=hk p (aJ hp)
  have hse:SqL K H' e (es.map V.int):=SqL.of he
  have hel:es.length<=1000:=bB (uU hE.inc wo) hT
  have hd':=hS _ _ hd
  have fin:∀ (H2:Hp) (e':Addr) (ts m:List Int) (yes:Bool) (w3 w4 w5 w6:Option V),bf H' H2->H2 e'=none->dY ts->(∀ x,x∈ts->x∈T)->(∀ z:Nat,z<Vbcnan.ALL->odd ts z=iD (before z) z p)->yes=oC p->Inc m->(∀ x,x∈m->x∈es\/x∈ts)->(∀ z,odd m z=if odd ts z then yes else odd es z) ->
   ∃ (e:Addr) (es:List Int) (v3 v4 v5 v6:Option V),[some (.ref a),some (.ref d),some (.ref e'),w3,w4,w5,w6]=[some (.ref a),some (.ref d),some (.ref e),v3,v4,v5,v6]/\upd H2 e' (.lst (m.map V.int)) e=some (.lst (es.map V.int))/\H e=none/\bf H (upd H2 e' (.lst (m.map V.int)))/\dY es/\(∀ x,x∈es->x∈T)/\∀ z:Nat,z<Vbcnan.ALL->odd es z=Vbcnan.inParts (before z) z (ps.take (i+1)):=by
   intro H2 e' ts m yes w3 w4 w5 w6 hS2 he' hTs hts hsm hy hm1 hm2 hm3
   refine ⟨e',m,w3,w4,w5,w6,rfl,aw,hS.free (hS2.free he'),br (hS.trans hS2) he',hE.made hTs hm1 hm2 hm3,fun x hx => ?_,fun z hzz => ?_⟩
   ·rcases hm2 x hx with y|y
    ·exact wo x y
    ·exact hts x y
   ·rw [hm3,take_snoc hp,uV,hsm z hzz,nM z hzz,hy]
  have hqq:=hS _ _ hqp
  cases p with
  |add lo hi =>
   obtain ⟨k1,k2,k3,k4⟩:=hkp
   have hqt:SqT K H' q [.int 0,.int lo,.int hi]:=SqT.of hqq
   walk_at "x"
   refine cP ?_
   walk_at "x"
   refine ⟨by show 2<=sizeLine;omega,fun t ht => ?_⟩
   walk_at "x"
   refine fM ?_
   walk_at "x"
   have hE2:=dY.range k1 k2
   refine ⟨e,t,es,[(lo:Int),(hi:Int)+1],true,rfl,fe hse ht,SqL.of aw,hE.inc,hE2.inc,by simp;omega,fun e' m he' hm1 hm2 hm3 => ?_⟩
   exact fin _ e' _ m true _ _ _ _ (br (bf.refl H') ht) he' hE2 (fun x hx=>by simp at hx;rcases hx with rfl|rfl<;>assumption) (fun z _=>CL z k1) rfl hm1 hm2 hm3
  |sub lo hi =>
   obtain ⟨k1,k2,k3,k4⟩:=hkp
   have hqt:SqT K H' q [.int 1,.int lo,.int hi]:=SqT.of hqq
   walk_at "x"
   refine cP ?_
   walk_at "x"
   refine ⟨by show 2<=sizeLine;omega,fun t ht => ?_⟩
   walk_at "x"
   refine fM ?_
   walk_at "x"
   have hE2:=dY.range k1 k2
   refine ⟨e,t,es,[(lo:Int),(hi:Int)+1],false,rfl,fe hse ht,SqL.of aw,hE.inc,hE2.inc,by simp;omega,fun e' m he' hm1 hm2 hm3 => ?_⟩
   exact fin _ e' _ m false _ _ _ _ (br (bf.refl H') ht) he' hE2 (fun x hx=>by simp at hx;rcases hx with rfl|rfl<;>assumption) (fun z _=>CL z k1) rfl hm1 hm2 hm3
  |with_ g =>
   obtain ⟨t,ts,k1,k2,k3,k4,k5⟩:=hkp
   have hqt:SqT K H' q [.int 2,.int g,.int 0]:=SqT.of hqq
   walk_at "x"
   refine cP ?_
   walk_at "x"
   refine fM ?_
   walk_at "x"
   have hz2:ts.length<=1000:=bB (uU k3.inc k4) hT
   refine ⟨e,t,es,ts,true,rfl,hse,SqL.of (hS _ _ k2),hE.inc,k3.inc,by omega,fun e' m he' hm1 hm2 hm3 => ?_⟩
   exact fin _ e' ts m true _ _ _ _ (bf.refl H') he' k3 k4 k5 rfl hm1 hm2 hm3
  |but g =>
   obtain ⟨t,ts,k1,k2,k3,k4,k5⟩:=hkp
   have hqt:SqT K H' q [.int 3,.int g,.int 0]:=SqT.of hqq
   walk_at "x"
   refine cP ?_
   walk_at "x"
   refine fM ?_
   walk_at "x"
   have hz2:ts.length<=1000:=bB (uU k3.inc k4) hT
   refine ⟨e,t,es,ts,false,rfl,hse,SqL.of (hS _ _ k2),hE.inc,k3.inc,by omega,fun e' m he' hm1 hm2 hm3 => ?_⟩
   exact fin _ e' ts m false _ _ _ _ (bf.refl H') he' k3 k4 k5 rfl hm1 hm2 hm3
 ·rintro σ H' ⟨e,es,v3,v4,v5,v6,rfl,he,hne,hS,hE,wo,nM⟩
  rw [ab,a8 (by rw [hP.length];exact ay _)] at nM
  walk_at "x"
  exact k H' e es hS hne he hE wo nM
end
section
variable {K:Frag} {vs:List V} {H:Hp} {Q:VK} {E:XK}
def Ma (kvs:List (Key×V)) (before:List (Nat×Bool)):Vbcnan.Part->Prop
 |.with_ g=>b0 kvs (Sum.inl (g:Int))=some (.bl (before.any fun x=>x.1==g&&x.2))
 |.but g=>b0 kvs (Sum.inl (g:Int))=some (.bl (before.any fun x=>x.1==g&&x.2))
 |_=>True
def eF:Sp:=fun vs H Q _=>∃ (a d:Addr) (z:Nat) (ps:List Vbcnan.Part) (kvs:List (Key×V)) (before:List (Nat×Bool)),vs=[.ref a,.ref d,.int z]/\Jh H a ps/\H d=some (.dK kvs)/\(∀ p,p∈ps->Ma kvs before p)/\Q (.bl (Vbcnan.inParts before z ps)) H
theorem RV {b:Bool} {P:Bool->Prop} {c:Bool} (h:P (b&&c)):if b=true then P c else P false:=by
 cases b<;>simpa using h
theorem Bm (h:eF vs H Q E):nh K bJ b9 (Ed Q) (start pB vs) H:=by
 obtain ⟨a,d,z,ps,kvs,before,rfl,⟨qs,hqs,hP⟩,hd,hk,k⟩:=h
 unfold nh
 have hsq:SqL K H a (qs.map V.ref):=SqL.of hqs
 walk_at "x"
 refine dO (K:=K) (a:=a) (xs:=qs.map V.ref) (fun i σ H'=>∃ (v4 v5 v6 v7:Option V),σ = [some (.ref a),some (.ref d),some (.int z),some (.bl (Vbcnan.inParts before z (ps.take i))),v4,v5,v6,v7]/\H'=H)
  ⟨none,none,none,none,rfl,rfl⟩ (fun i σ H' _ ⟨_,_,_,_,_,e⟩=>by rw [e];exact hsq) ?_ ?_
 ·rintro i x σ H' hx ⟨v4,v5,v6,v7,rfl,rfl⟩
  obtain ⟨q,rfl,hq⟩:=cX hx
  obtain ⟨p,hp,hqp⟩:=Paired.get hP hq
  have hkp:=hk p (aJ hp)
  have hst:Vbcnan.inParts before z (ps.take (i+1))=if iD before z p then oC p else Vbcnan.inParts before z (ps.take i):=by rw [take_snoc hp,uV]
  cases p with
  |add lo hi =>
   have hqt:SqT K H' q [.int 0,.int lo,.int hi]:=SqT.of hqp
   by_cases c1:lo<=z
   ·by_cases c2:z<=hi
    ·walk_at "x"
     refine cP ?_
     walk_at "x"
     refine fM ?_
     walk_at "x"
     have e9:Vbcnan.inParts before z (ps.take (i+1))=true:=by rw [hst];simp [iD,oC,c1,c2]
     exact ⟨_,_,_,_,by rw [e9];rfl,rfl⟩
    ·walk_at "x"
     refine cP ?_
     walk_at "x"
     have e9:Vbcnan.inParts before z (ps.take (i+1))=Vbcnan.inParts before z (ps.take i):=by rw [hst];simp [iD,oC,c1,c2]
     exact ⟨_,_,_,_,by rw [e9];rfl,rfl⟩
   ·walk_at "x"
    refine cP ?_
    walk_at "x"
    have e9:Vbcnan.inParts before z (ps.take (i+1))=Vbcnan.inParts before z (ps.take i):=by rw [hst];simp [iD,oC,c1]
    exact ⟨_,_,_,_,by rw [e9];rfl,rfl⟩
  |sub lo hi =>
   have hqt:SqT K H' q [.int 1,.int lo,.int hi]:=SqT.of hqp
   by_cases c1:lo<=z
   ·by_cases c2:z<=hi
    ·walk_at "x"
     refine cP ?_
     walk_at "x"
     refine fM ?_
     walk_at "x"
     have e9:Vbcnan.inParts before z (ps.take (i+1))=false:=by rw [hst];simp [iD,oC,c1,c2]
     exact ⟨_,_,_,_,by rw [e9];rfl,rfl⟩
    ·walk_at "x"
     refine cP ?_
     walk_at "x"
     have e9:Vbcnan.inParts before z (ps.take (i+1))=Vbcnan.inParts before z (ps.take i):=by rw [hst];simp [iD,oC,c1,c2]
     exact ⟨_,_,_,_,by rw [e9];rfl,rfl⟩
   ·walk_at "x"
    refine cP ?_
    walk_at "x"
    have e9:Vbcnan.inParts before z (ps.take (i+1))=Vbcnan.inParts before z (ps.take i):=by rw [hst];simp [iD,oC,c1]
    exact ⟨_,_,_,_,by rw [e9];rfl,rfl⟩
  |with_ g =>
   have hqt:SqT K H' q [.int 2,.int g,.int 0]:=SqT.of hqp
   have hkp:b0 kvs (Sum.inl (g:Int))=some (.bl (before.any fun x=>x.1==g&&x.2)):=hkp
   have hst:Vbcnan.inParts before z (ps.take (i+1))=if (before.any fun x=>x.1==g&&x.2) then oC (.with_ g) else Vbcnan.inParts before z (ps.take i):=hst
   cases hb:(before.any fun x=>x.1==g&&x.2) with
   |true =>
    rw [hb] at hkp hst
    walk_at "x"
    refine cP ?_
    walk_at "x"
    refine fM ?_
    walk_at "x"
    have e9:Vbcnan.inParts before z (ps.take (i+1))=true:=by rw [hst];simp [oC]
    exact ⟨_,_,_,_,by rw [e9];rfl,rfl⟩
   |false =>
    rw [hb] at hkp hst
    walk_at "x"
    refine cP ?_
    walk_at "x"
    have e9:Vbcnan.inParts before z (ps.take (i+1))=Vbcnan.inParts before z (ps.take i):=by rw [hst];simp
    exact ⟨_,_,_,_,by rw [e9];rfl,rfl⟩
  |but g =>
   have hqt:SqT K H' q [.int 3,.int g,.int 0]:=SqT.of hqp
   have hkp:b0 kvs (Sum.inl (g:Int))=some (.bl (before.any fun x=>x.1==g&&x.2)):=hkp
   have hst:Vbcnan.inParts before z (ps.take (i+1))=if (before.any fun x=>x.1==g&&x.2) then oC (.but g) else Vbcnan.inParts before z (ps.take i):=hst
   cases hb:(before.any fun x=>x.1==g&&x.2) with
   |true =>
    rw [hb] at hkp hst
    walk_at "x"
    refine cP ?_
    walk_at "x"
    refine fM ?_
    walk_at "x"
    have e9:Vbcnan.inParts before z (ps.take (i+1))=false:=by rw [hst];simp [oC]
    exact ⟨_,_,_,_,by rw [e9];rfl,rfl⟩
   |false =>
    rw [hb] at hkp hst
    walk_at "x"
    refine cP ?_
    walk_at "x"
    have e9:Vbcnan.inParts before z (ps.take (i+1))=Vbcnan.inParts before z (ps.take i):=by rw [hst];simp
    exact ⟨_,_,_,_,by rw [e9];rfl,rfl⟩
 ·rintro σ H' ⟨v4,v5,v6,v7,rfl,rfl⟩
  rw [ab,a8 (by rw [hP.length];exact ay _)]
  walk_at "x"
  exact k
end
section
variable {K:Frag} {vs:List V} {H:Hp} {Q:VK} {E:XK}
open Vbcnan (State Group Part Rule)
def gO (m g r k t:V):List (Str×V):=[("most",m),("groups",g),("rules",r),("known_edges",k),("known_table",t)]
theorem Ep (m g r k t:V):(gO m g r k t).lookup ("most":Str)=some m:=rfl
theorem df (m g r k t:V):(gO m g r k t).lookup ("groups":Str)=some g:=rfl
theorem gi (m g r k t:V):(gO m g r k t).lookup ("rules":Str)=some r:=rfl
theorem zZ (m g r k t:V):(gO m g r k t).lookup ("known_edges":Str)=some k:=rfl
theorem u6 (m g r k t:V):(gO m g r k t).lookup ("known_table":Str)=some t:=rfl
theorem KY (m g r k t y:V):gu "most" y (gO m g r k t)=gO y g r k t:=rfl
theorem O2 (m g r k t y:V):gu "groups" y (gO m g r k t)=gO m y r k t:=rfl
theorem Qn (m g r k t y:V):gu "rules" y (gO m g r k t)=gO m g y k t:=rfl
theorem CA (m g r k t y:V):gu "known_edges" y (gO m g r k t)=gO m g r y t:=rfl
theorem lT (m g r k t y:V):gu "known_table" y (gO m g r k t)=gO m g r k y:=rfl
structure CC where
 sw:Addr
 tb:Addr
structure TxT (K:Frag) (C:Addr):Prop where
 cl:Cls K C
 too:dr K C "too_many"
 raw:dr K C "raw_count"
 rows:dr K C "rows"
structure TxS (K:Frag) (C:CC):Prop where
 cl:Cls K C.sw
 most:dr K C.sw "most"
 groups:dr K C.sw "groups"
 rules:dr K C.sw "rules"
 known:dr K C.sw "known_edges"
 table:dr K C.sw "known_table"
 tab:TxT K C.tb
structure SA where
 sw:Addr
 dx:Addr
 dg:Addr
 lr:Addr
 dk:Addr
 kvs:List (Key×V)
 rs:List Addr
 es:List (Key×V)
 im:List Addr
 kt:V
def SA.mut (A:SA):List Addr:=[A.sw,A.dg,A.lr,A.dk]
def SA.own (A:SA):List Addr:=A.dx::A.mut++A.im
def eZ:Option Nat->V
 |some n=>.int n
 |none=>.int (-1)
def qm (r:Rule):List V:=[.int (if r.pass then 1 else 0),eZ r.src,eZ r.dst,eZ r.kind,.int r.lo,.int r.hi]
def m8 (im:List Addr) (H:Hp) (a:Addr) (ps:List Part):Prop:=a∈im/\∃ qs:List Addr,H a=some (.lst (qs.map V.ref))/\Paired (fun q p=>q∈im/\H q=some (.tup (uP p))) qs ps
def yO (im:List Addr) (H:Hp) (gs:List Group) (g:Nat) (v:V):Prop:=∃ e es,v=.ref e/\e∈im/\H e=some (.lst (es.map V.int))/\dY es/\(∀ x,x∈es->x∈(marks gs).map fun (n:Nat)=>(n:Int))/\∀ z:Nat,z<Vbcnan.ALL->odd es z=Vbcnan.isIn gs g z
structure WfR (s:State):Prop where
 few:s.rules.length<=32
 src:∀ r,r∈s.rules->∀ g,r.src=some g->∃ x,x∈s.groups/\x.id=g
 dst:∀ r,r∈s.rules->∀ g,r.dst=some g->∃ x,x∈s.groups/\x.id=g
 kind:∀ r,r∈s.rules->∀ k,r.kind=some k->k<=255
 port:∀ r,r∈s.rules->r.lo<=r.hi/\r.hi<=65535
def g6 (r:Vbcnan.Row):List V:=[.int (if r.pass then 1 else 0),.int (pv r:Nat),.int (pm r:Nat)]
def Qh (im:List Addr) (H:Hp) (a:Addr) (rows:List Vbcnan.Row):Prop:=a∈im/\∃ ts:List Addr,H a=some (.lst (ts.map V.ref))/\Paired (fun q r=>q∈im/\H q=some (.tup (g6 r))) ts rows
def qa (too:Bool) (raw:Nat) (lr:Addr):List (Str×V):=[("too_many",.bl too),("raw_count",.int raw),("rows",.ref lr)]
structure L9 (s:State) (too:Bool) (raw:Nat) (rows:List Vbcnan.Row):Prop where
 eqt:too=decide (s.most<Vbcnan.rawCount s)
 eqr:too=false->raw=(Vbcnan.rawRows s).length
 eqw:too=false->rows=Vbcnan.table s
 ok:∀ r,r∈rows->dP r
 few:rows.length<=1024
def TabAt (ct:Addr) (im:List Addr) (H:Hp) (s:State) (t:Addr):Prop:=∃ (dt lr:Addr) (too:Bool) (raw:Nat) (rows:List Vbcnan.Row),t∈im/\H t=some (.ins ct dt (qa too raw lr))/\Qh im H lr rows/\L9 s too raw rows
def Jg (ct:Addr) (im:List Addr) (H:Hp) (s:State) (kt:V):Prop:=kt=.non\/∃ t,kt=.ref t/\TabAt ct im H s t
abbrev SA.fs (A:SA) (s:State):List (Str×V):=gO (.int (if s.on then (s.most:Int) else 0)) (.ref A.dg) (.ref A.lr) (.ref A.dk) A.kt
structure bG (C:CC) (H:Hp) (s:State) (A:SA):Prop where
 ins:H A.sw=some (.ins C.sw A.dx (A.fs s))
 dx:H A.dx=some (.own A.sw)
 dg:H A.dg=some (.dK A.kvs)
 lr:H A.lr=some (.lst (A.rs.map V.ref))
 dk:H A.dk=some (.dK A.es)
 gk:A.dg≠A.dk
 li:A.lr∉A.im
 on:s.on=true->1<=s.most
 nd:(A.kvs.map (·.1)).Nodup
 grp:∀ g,g∈s.groups->∃ a,b0 A.kvs (Sum.inl (g.id:Int))=some (.ref a)/\m8 A.im H a g.parts
 keys:∀ k v,b0 A.kvs k=some v->∃ g,g∈s.groups/\k=Sum.inl (g.id:Int)
 rul:Paired (fun q r=>q∈A.im/\H q=some (.tup (qm r))) A.rs s.rules
 kno:∀ g,g∈s.groups->∀ v,b0 A.es (Sum.inl (g.id:Int))=some v->yO A.im H s.groups g.id v
 ndk:(A.es.map (·.1)).Nodup
 Lw:∀ k v,b0 A.es k=some v->∃ g,g∈s.groups/\k=Sum.inl (g.id:Int)
 most:s.most<=1024
 tab:Jg C.tb A.im H s A.kt
 wg:WfG s.groups
 wr:WfR s
 imd:∀ b,b∈A.im->H b≠none
variable {C:CC}
theorem m8.keep {im im':List Addr} {H H':Hp} {a:Addr} {ps:List Part} (h:m8 im H a ps) (k:∀ b o,b∈im->H b=some o->H' b=some o) (hi:∀ b,b∈im->b∈im'):m8 im' H' a ps:=by
 obtain ⟨h0,qs,h1,h2⟩:=h
 exact ⟨hi _ h0,qs,k _ _ h0 h1,Paired.imp (fun q p ⟨x,y⟩=>⟨hi _ x,k _ _ x y⟩) h2⟩
theorem yO.keep {im im':List Addr} {H H':Hp} {gs:List Group} {g:Nat} {v:V} (h:yO im H gs g v) (k:∀ b o,b∈im->H b=some o->H' b=some o) (hi:∀ b,b∈im->b∈im'):yO im' H' gs g v:=by
 obtain ⟨e,es,h0,h1,h2,h3⟩:=h
 exact ⟨e,es,h0,hi _ h1,k _ _ h1 h2,h3⟩
def Md (ct:Addr) (o:HO):Prop:=(∃ xs,o=HO.lst xs)\/(∃ xs,o=HO.tup xs)\/(∃ dx fs,o=HO.ins ct dx fs)
theorem TabAt.keep {ct:Addr} {im im':List Addr} {H H':Hp} {s:State} {t:Addr} (h:TabAt ct im H s t) (k:∀ b o,b∈im->Md ct o->H b=some o->H' b=some o) (hi:∀ b,b∈im->b∈im'):TabAt ct im' H' s t:=by
 obtain ⟨dt,lr,too,raw,rows,h1,h2,⟨h3,ts,h4,h5⟩,h6⟩:=h
 exact ⟨dt,lr,too,raw,rows,hi _ h1,k _ _ h1 (.inr (.inr ⟨_,_,rfl⟩)) h2,⟨hi _ h3,ts,k _ _ h3 (.inl ⟨_,rfl⟩) h4,Paired.imp (fun q r ⟨x,y⟩=>⟨hi _ x,k _ _ x (.inr (.inl ⟨_,rfl⟩)) y⟩) h5⟩,h6⟩
theorem Jg.keep {ct:Addr} {im im':List Addr} {H H':Hp} {s:State} {kt:V} (h:Jg ct im H s kt) (k:∀ b o,b∈im->Md ct o->H b=some o->H' b=some o) (hi:∀ b,b∈im->b∈im'):Jg ct im' H' s kt:=by
 rcases h with h|⟨t,h1,h2⟩
 ·exact .inl h
 ·exact .inr ⟨t,h1,h2.keep k hi⟩
theorem bG.Ep {s:State} {A:SA} (_:bG C H s A):(A.fs s).lookup ("most":Str)=some (.int (if s.on then (s.most:Int) else 0)):=rfl
theorem bG.df {s:State} {A:SA} (_:bG C H s A):(A.fs s).lookup ("groups":Str)=some (.ref A.dg):=rfl
theorem bG.gi {s:State} {A:SA} (_:bG C H s A):(A.fs s).lookup ("rules":Str)=some (.ref A.lr):=rfl
theorem bG.zZ {s:State} {A:SA} (_:bG C H s A):(A.fs s).lookup ("known_edges":Str)=some (.ref A.dk):=rfl
theorem bG.u6 {s:State} {A:SA} (_:bG C H s A):(A.fs s).lookup ("known_table":Str)=some A.kt:=rfl
theorem bG.same {C:CC} {H H':Hp} {s:State} {A:SA} (h:bG C H s A) (k:∀ b o,b∈A.own->H b=some o->H' b=some o):bG C H' s A:=by
 have km:∀ b,b∈A.mut->∀ o,H b=some o->H' b=some o:=fun b hb o e=>k b o (by unfold SA.own;simp [hb]) e
 have ki:∀ b o,b∈A.im->H b=some o->H' b=some o:=fun b o hb e=>k b o (by unfold SA.own;simp [hb]) e
 exact {h with
  ins:=km _ (by simp [SA.mut]) _ h.ins
  dx:=k _ _ (by simp [SA.own]) h.dx
  dg:=km _ (by simp [SA.mut]) _ h.dg
  lr:=km _ (by simp [SA.mut]) _ h.lr
  dk:=km _ (by simp [SA.mut]) _ h.dk
  grp:=fun g hg=>let ⟨a,h1,h2⟩:=h.grp g hg;⟨a,h1,h2.keep ki fun _ x=>x⟩
  rul:=Paired.imp (fun q r ⟨x,y⟩=>⟨x,ki _ _ x y⟩) h.rul
  kno:=fun g hg v hv=>(h.kno g hg v hv).keep ki fun _ x=>x
  tab:=h.tab.keep (fun b o hb _ e=>ki b o hb e) fun _ x=>x
  imd:=fun b hb=>by
   obtain ⟨o,e⟩:=Option.ne_none_iff_exists'.mp (h.imd b hb)
   rw [ki b o hb e]
   exact fun q=>nomatch q}
structure Left (H H':Hp) (A A':SA):Prop where
 sw:A'.sw=A.sw
 grow:∀ b,b∈A'.own->b∈A.own\/H b=none
 keep:∀ b o,H b=some o->b∉A.own->H' b=some o
 dom:∀ b,H' b=none->H b=none
theorem cc {H:Hp} {a b:Addr} {o:HO} (h:upd H a o b=none):H b=none:=by
 by_cases e:b=a
 ·rw [e,aw] at h
  cases h
 ·rw [au e] at h
  exact h
theorem Left.refl (H:Hp) (A:SA):Left H H A A:=⟨rfl,fun _ h=>.inl h,fun _ _ e _=>e,fun _ h=>h⟩
theorem Left.of_same {H H':Hp} (A:SA) (s:bf H H'):Left H H' A A:=⟨rfl,fun _ h=>.inl h,fun b o e _=>s b o e,fun _ h=>s.free h⟩
theorem bG.dom {C:CC} {H:Hp} {s:State} {A:SA} (h:bG C H s A):∀ b,b∈A.mut->H b≠none:=by
 intro b hb
 simp only [SA.mut,ae,List.not_mem_nil,or_false] at hb
 rcases hb with rfl|rfl|rfl|rfl
 ·rw [h.ins];exact fun q=>nomatch q
 ·rw [h.dg];exact fun q=>nomatch q
 ·rw [h.lr];exact fun q=>nomatch q
 ·rw [h.dk];exact fun q=>nomatch q
def s0:State:={}
def dN (C:CC):Sp:=fun vs H Q _=>∃ (x dx:Addr),vs=[.ref x]/\H x=some (.ins C.sw dx [])/\H dx=some (.own x)/\∀ H' A,bG C H' Vbcnan.start A->A.sw=x->A.im=[]->(∀ b,b∈A.own->b=x\/b=dx\/H b=none)->(∀ b o,H b=some o->b≠x->H' b=some o)->Q .non H'
theorem zy (T:TxS K C) (h:dN C vs H Q E):mj K (Ed Q) (start n6 vs) H:=by
 obtain ⟨x,dx,rfl,hx,hdx,k⟩:=h
 obtain ⟨tc,n1,n2,n3,n4,n5,TT⟩:=T
 unfold mj
 have nxd:dx≠x:=bR hdx hx (by intro z;cases z)
 walk_at "x"
 refine dA hx tc n1 (by decide) ?_
 generalize hf1:gu "most" (V.int 0) []=f1
 have hx1:upd H x (.ins C.sw dx f1) x=some (.ins C.sw dx f1):=aw
 have kp1:∀ b o,H b=some o->b≠x->upd H x (.ins C.sw dx f1) b=some o:=fun b o e hb=>by rw [au hb];exact e
 generalize upd H x (.ins C.sw dx f1)=H1 at hx1 kp1 ⊢
 walk_at "x"
 intro dg hdg
 have hx2:upd H1 dg (.dK []) x=some (.ins C.sw dx f1):=by rw [au (az hx1 hdg)];exact hx1
 walk_at "x"
 refine dA hx2 tc n2 (by subst hf1;exact (show 1<1000 by decide)) ?_
 generalize hf2:gu "groups" (V.ref dg) f1=f2
 have ndg:dg≠x:=fun q=>by rw [q,hx1] at hdg;cases hdg
 have hx3:upd (upd H1 dg (.dK [])) x (.ins C.sw dx f2) x=some (.ins C.sw dx f2):=aw
 have hg3:upd (upd H1 dg (.dK [])) x (.ins C.sw dx f2) dg=some (.dK []):=by rw [au ndg];exact aw
 have kp3:∀ b o,H b=some o->b≠x->upd (upd H1 dg (.dK [])) x (.ins C.sw dx f2) b=some o:=fun b o e hb=>by
  rw [au hb,au (az (kp1 b o e hb) hdg)]
  exact kp1 b o e hb
 generalize upd (upd H1 dg (.dK [])) x (.ins C.sw dx f2)=H3 at hx3 hg3 kp3 ⊢
 walk_at "x"
 refine ⟨aT _,fun lr hlr => ?_⟩
 have hx4:upd H3 lr (.lst []) x=some (.ins C.sw dx f2):=by rw [au (az hx3 hlr)];exact hx3
 walk_at "x"
 refine dA hx4 tc n3 (by subst hf2 hf1;exact (show 2<1000 by decide)) ?_
 generalize hf3:gu "rules" (V.ref lr) f2=f3
 have nlr:lr≠x:=fun q=>by rw [q,hx3] at hlr;cases hlr
 have nlg:dg≠lr:=az hg3 hlr
 have hx5:upd (upd H3 lr (.lst [])) x (.ins C.sw dx f3) x=some (.ins C.sw dx f3):=aw
 have hg5:upd (upd H3 lr (.lst [])) x (.ins C.sw dx f3) dg=some (.dK []):=by rw [au ndg,au nlg];exact hg3
 have hl5:upd (upd H3 lr (.lst [])) x (.ins C.sw dx f3) lr=some (.lst []):=by rw [au nlr];exact aw
 have kp5:∀ b o,H b=some o->b≠x->upd (upd H3 lr (.lst [])) x (.ins C.sw dx f3) b=some o:=fun b o e hb=>by
  rw [au hb,au (az (kp3 b o e hb) hlr)]
  exact kp3 b o e hb
 generalize upd (upd H3 lr (.lst [])) x (.ins C.sw dx f3)=H5 at hx5 hg5 hl5 kp5 ⊢
 walk_at "x"
 intro dk hdk
 have hx6:upd H5 dk (.dK []) x=some (.ins C.sw dx f3):=by rw [au (az hx5 hdk)];exact hx5
 walk_at "x"
 refine dA hx6 tc n4 (by subst hf3 hf2 hf1;exact (show 3<1000 by decide)) ?_
 generalize hf4:gu "known_edges" (V.ref dk) f3=f4
 have hx7:upd (upd H5 dk (.dK [])) x (.ins C.sw dx f4) x=some (.ins C.sw dx f4):=aw
 walk_at "x"
 refine dA hx7 tc n5 (by subst hf4 hf3 hf2 hf1;exact (show 4<1000 by decide)) ?_
 rw [gS]
 have ndk:dk≠x:=fun q=>by rw [q,hx5] at hdk;cases hdk
 have ngk:dg≠dk:=az hg5 hdk
 have nlk:lr≠dk:=az hl5 hdk
 have LI:=kp5 _ _ hdx nxd
 refine k _ ⟨x,dx,dg,lr,dk,[],[],[],[],.non⟩ ⟨?_,?_,?_,?_,?_,ngk,by simp,fun q=>(by cases q),ff,fun g hg=>(by cases hg),fun k v hk=>(by cases hk),.nil,fun g hg=>(by cases hg),ff,fun k v hk=>(by cases hk),aT _,.inl rfl,⟨List.Pairwise.nil,fun g hg=>(by cases hg),fun g hg=>(by cases hg),fun g hg=>(by cases hg)⟩,⟨by decide,fun g hg=>(by cases hg),fun g hg=>(by cases hg),fun g hg=>(by cases hg),fun g hg=>(by cases hg)⟩,fun b hb=>(by cases hb)⟩ rfl rfl ?_ ?_
 ·show upd _ x _ x=_
  rw [aw]
  subst hf4 hf3 hf2 hf1
  rfl
 ·show upd _ x _ dx=_
  rw [au nxd,au (az LI hdk)]
  exact LI
 ·show upd _ x _ dg=_
  rw [au ndg,au ngk]
  exact hg5
 ·show upd _ x _ lr=_
  rw [au nlr,au nlk]
  exact hl5
 ·show upd _ x _ dk=_
  rw [au ndk,aw]
 ·intro b hb
  have hb:b=dx\/b=x\/b=dg\/b=lr\/b=dk:=by simpa [SA.own,SA.mut] using hb
  have fr:∀ c,c≠x->(∀ o,H c=some o->False)->H c=none:=fun c _ hc=>by
   cases e:H c with
   |none=>rfl
   |some o=>exact (hc o e).elim
  rcases hb with rfl|rfl|rfl|rfl|rfl
  ·exact .inr (.inl rfl)
  ·exact .inl rfl
  ·exact .inr (.inr (fr _ ndg fun o e=>by rw [kp1 _ _ e ndg] at hdg;cases hdg))
  ·exact .inr (.inr (fr _ nlr fun o e=>by rw [kp3 _ _ e nlr] at hlr;cases hlr))
  ·exact .inr (.inr (fr _ ndk fun o e=>by rw [kp5 _ _ e ndk] at hdk;cases hdk))
 ·intro b o e hb
  rw [au hb,au (az (kp5 b o e hb) hdk)]
  exact kp5 b o e hb
end
section
variable {K:Frag} {C:CC} {vs:List V} {H:Hp} {Q:VK} {E:XK}
theorem Paired.append {α β : Type} {R : α -> β -> Prop}:∀ {l l':List α} {m m':List β},Paired R l m->Paired R l' m'->Paired R (l++l') (m++m')
 |_,_,_,_,.nil,h=>h
 |_,_,_,_,.cons r t,h=>.cons r (Paired.append t h)
theorem Paired.take {α β : Type} {R : α -> β -> Prop}:∀ {l:List α} {m:List β} (n:Nat),Paired R l m->Paired R (l.take n) (m.take n)
 |_,_,0,_=>.nil
 |_,_,_+1,.nil=>.nil
 |_,_,n+1,.cons r t=>.cons r (Paired.take n t)
theorem Paired.drop {α β : Type} {R : α -> β -> Prop}:∀ {l:List α} {m:List β} (n:Nat),Paired R l m->Paired R (l.drop n) (m.drop n)
 |_,_,0,h=>h
 |_,_,_+1,.nil=>.nil
 |_,_,n+1,.cons _ t=>Paired.drop n t
theorem Paired.erase {α β : Type} {R : α -> β -> Prop}:∀ {l:List α} {m:List β} (n:Nat),Paired R l m->Paired R (l.eraseIdx n) (m.eraseIdx n)
 |_,_,_,.nil=>.nil
 |_,_,0,.cons _ t=>t
 |_,_,n+1,.cons r t=>.cons r (Paired.erase n t)
section
variable {α : Type}
def LsF (f : α -> List V) (H0 H:Hp) (p:Addr) (xs:List α):Prop:=∃ ts:List Addr,H p=some (.lst (ts.map V.ref))/\Paired (fun t x=>H0 t=none/\H t=some (.tup (f x))) ts xs
theorem LsF.same {f : α -> List V} {H0 H H':Hp} {p:Addr} {xs:List α} (h:LsF f H0 H p xs) (s:bf H H'):LsF f H0 H' p xs:=by
 obtain ⟨ts,h1,h2⟩:=h
 exact ⟨ts,s _ _ h1,Paired.imp (fun t x ⟨y,z⟩=>⟨y,s _ _ z⟩) h2⟩
theorem LsF.dom {f : α -> List V} {H0 H1 H:Hp} {p:Addr} {xs:List α} (h:LsF f H1 H p xs) (d:∀ b,H1 b=none->H0 b=none):LsF f H0 H p xs:=by
 obtain ⟨ts,h1,h2⟩:=h
 exact ⟨ts,h1,Paired.imp (fun t x ⟨y,z⟩=>⟨d _ y,z⟩) h2⟩
theorem eY {H H':Hp} {p:Addr} {o:HO} (s:bf H H') (hp:H p=none):bf H (upd H' p o):=fun b u e=>by
 rw [au (az e hp)]
 exact s b u e
theorem KJ {f : α -> List V} {H0 H:Hp} {p t:Addr} {ts:List Addr} {xs:List α} {x : α} (hp:H p=some (.lst (ts.map V.ref))) (hP:Paired (fun t x=>H0 t=none/\H t=some (.tup (f x))) ts xs) (ht:H t=none) (hd:H0 t=none) :
 upd (upd H t (.tup (f x))) p (.lst (ts.map V.ref++[V.ref t])) p=some (.lst ((ts++[t]).map V.ref))/\Paired (fun s y=>H0 s=none/\upd (upd H t (.tup (f x))) p (.lst (ts.map V.ref++[V.ref t])) s=some (.tup (f y))) (ts++[t]) (xs++[x]):=by
 have hpt:p≠t:=az hp ht
 refine ⟨by rw [aw,bt];rfl,Paired.snoc ⟨hd,by rw [au hpt.symm,aw]⟩ (Paired.imp (fun s y ⟨a,b⟩=>⟨a,?_⟩) hP)⟩
 rw [au (bR b hp (by intro z;cases z)),au (az b ht)]
 exact b
end
def bV:Sp:=fun vs H Q _=>∃ n:Int,vs=[.int n]/\Q (.bl (Vbcnan.isAddr n)) H
theorem iR (n a b:Int):Vbcnan.within n a b=decide (a<=n/\n<=b):=by
 unfold Vbcnan.within
 rw [bU,aE,decide_eq_true_iff,decide_eq_true_iff,decide_eq_true_iff]
theorem Bq (h:bV vs H Q E):nr K (Ed Q) (start pG vs) H:=by
 obtain ⟨n,rfl,h⟩:=h
 unfold Vbcnan.isAddr at h
 rw [iR] at h
 unfold nr
 by_cases c:0<=n
 ·walk_at "x"
  have:decide (n<=4294967295)=decide (0<=n/\n<=4294967295):=decide_eq_decide.mpr ⟨fun q=>⟨c,q⟩,fun q=>q.2⟩
  rw [this]
  exact h
 ·rw [decide_eq_false (fun q=>c q.1)] at h
  walk_at "x"
  exact h
def cx:Sp:=fun vs H Q _=>∃ a b k p:Int,vs=[.int a,.int b,.int k,.int p]/\Q (.bl (Vbcnan.packetOf a b k p).isSome) H
theorem FG {a b k p:Int}:(Vbcnan.packetOf a b k p).isSome=(Vbcnan.isAddr a&&(Vbcnan.isAddr b&&(Vbcnan.within k 0 255&&Vbcnan.within p 0 65535))):=by
 unfold Vbcnan.packetOf
 cases (Vbcnan.isAddr a&&(Vbcnan.isAddr b&&(Vbcnan.within k 0 255&&Vbcnan.within p 0 65535)))<;>rfl
theorem DX (h:cx vs H Q E):oN K bV (Ed Q) (start qY vs) H:=by
 obtain ⟨a,b,k,p,rfl,h⟩:=h
 rw [FG] at h
 unfold oN
 walk_at "x"
 refine ⟨a,rfl,?_⟩
 walk_at "x"
 cases e1:Vbcnan.isAddr a with
 |false =>
  rw [e1] at h
  walk_at "x"
  exact h
 |true =>
  rw [e1] at h
  walk_at "x"
  refine ⟨b,rfl,?_⟩
  walk_at "x"
  cases e2:Vbcnan.isAddr b with
  |false =>
   rw [e2] at h
   walk_at "x"
   exact h
  |true =>
   rw [e2,iR,iR] at h
   by_cases c1:0<=k
   ·by_cases c2:k<=255
    ·rw [decide_eq_true ⟨c1,c2⟩] at h
     by_cases c3:0<=p
     ·walk_at "x"
      have:decide (p<=65535)=decide (0<=p/\p<=65535):=decide_eq_decide.mpr ⟨fun q=>⟨c3,q⟩,fun q=>q.2⟩
      rw [this]
      exact h
     ·rw [decide_eq_false (fun q:0<=p/\p<=65535=>c3 q.1)] at h
      walk_at "x"
      exact h
    ·rw [decide_eq_false (fun q:0<=k/\k<=255=>c2 q.2)] at h
     walk_at "x"
     exact h
   ·rw [decide_eq_false (fun q:0<=k/\k<=255=>c1 q.1)] at h
    walk_at "x"
    exact h
def eL:Sp:=fun vs H Q _=>∃ lo hi:Nat,vs=[.int lo,.int hi]/\lo<=hi/\Q (.int (Er lo hi:Nat)) H
theorem Al {n:Nat} (h:n≠0):(Builtin.Int.intBits (n:Int):Int)-1=(n.log2:Int):=by
 unfold Builtin.Int.intBits
 have:¬(((n:Int)==0)=true):=by
  rw [beq_iff_eq]
  omega
 rw [if_neg this,Int.natAbs_natCast]
 omega
theorem Nc {n:Nat} (h:0<n):Builtin.bitAnd (n:Int) (-(n:Int))=((n-(n &&& (n-1)):Nat):Int):=by
 rw [bitAnd_pn (by omega) (by omega)]
 have e:(Builtin.bitNot (-(n:Int))).toNat=n-1:=by
  unfold Builtin.bitNot
  omega
 rw [e,aD]
 have:n &&& (n-1)<=n:=Nat.and_le_left
 omega
theorem Na {n:Nat} (h:0<n):n-(n &&& (n-1))≠0:=by
 have:n &&& (n-1)<=n-1:=Nat.and_le_right
 omega
theorem Bs (h:eL vs H Q E):nv K (Ed Q) (start pI vs) H:=by
 obtain ⟨lo,hi,rfl,hle,h⟩:=h
 have e1:(hi:Int)-(lo:Int)+1=((hi-lo+1:Nat):Int):=by omega
 unfold nv
 unfold Er at h
 by_cases h0:lo=0
 ·rw [if_pos h0] at h
  walk_at "x"
  rw [e1,Al (by omega)]
  walk_at "x"
  exact h
 ·rw [if_neg h0] at h
  walk_at "x"
  rw [e1,Al (by omega),Nc (by omega),Al (Na (by omega))]
  walk_at "x"
  have:(if ((lo-(lo &&& (lo-1))).log2:Int)<((hi-lo+1).log2:Int) then ((lo-(lo &&& (lo-1))).log2:Int) else ((hi-lo+1).log2:Int))=((min (hi-lo+1).log2 (lo-(lo &&& (lo-1))).log2:Nat):Int):=by
   split<;>omega
  rw [this]
  exact h
def BM (b:Nat×Nat):List V:=[.int (b.1:Nat),.int (b.2:Nat)]
def bu:Sp:=fun vs H Q _=>∃ lo hi w:Nat,vs=[.int lo,.int hi]/\hi+1<=2 ^ w/\w<=32/\∀ H' p,bf H H'->H p=none->LsF BM H H' p (Vbcnan.coverOf w lo hi)->Q (.ref p) H'
theorem zm (h:bu vs H Q E):l6 K eL (Ed Q) (start nS vs) H:=by
 obtain ⟨lo,hi,w,rfl,hw,TY,k⟩:=h
 have hz:=sizeLine_eq
 unfold l6
 walk_at "x"
 refine ⟨aT _,fun p hp => ?_⟩
 walk_at "x"
 obtain ⟨W,hW⟩:∃ W:Nat->L2.St->Hp->Prop,W=fun m σ H'=>∃ (first:Nat) (ts:List Addr) (bs:List (Nat×Nat)) (v4:Option V),m=hi+1-first /\ σ = [some (.int lo),some (.int hi),some (.ref p),some (.int (first:Nat)),v4]/\Vbcnan.coverOf w lo hi=bs++Vbcnan.coverOf w first hi/\bf H H' /\
  H' p=some (.lst (ts.map V.ref))/\Paired (fun t x=>H t=none/\H' t=some (.tup (BM x))) ts bs:=⟨_,rfl⟩
 refine uh (n:=hi+1-lo) W (by rw [hW];exact ⟨lo,[],[],none,rfl,rfl,rfl,eY (bf.refl H) hp,aw,.nil⟩) ?_
 intro m σ H' N hw' hN1 hN2
 rw [hW] at hw'
 obtain ⟨first,ts,bs,v4,hm,rfl,Nt,hS,hpl,hP⟩:=hw'
 by_cases hle:first<=hi
 ·have hlen:=gQ (lo:=lo) hw
  have Ka:=o9 (lo:=first) hw
  rw [if_neg (by omega)] at Ka
  rw [Nt,aG] at hlen
  have htl:ts.length=bs.length:=hP.length
  walk_at "x"
  refine ⟨N,hN2,?_⟩
  walk_at "x"
  refine ⟨first,hi,rfl,hle,?_⟩
  rw [J8 hle hw]
  obtain ⟨b1,_,_,_⟩:=jZ hle w
  generalize hk:Vbcnan.blockAt first hi w=kk at Ka b1
  walk_at "x"
  refine ⟨by show 2<=sizeLine;omega,fun t ht => ?_⟩
  have hpt:upd H' t (.tup [.int (first:Nat),.int (kk:Nat)]) p=some (.lst (ts.map V.ref)):=by rw [au (az hpl ht)];exact hpl
  walk_at "x"
  refine eT hpt (by rw [ab];omega) ?_
  walk_at "x"
  refine yP (show uf _ _ from ⟨by omega,by omega,by decide⟩) ?_
  walk_at "x"
  refine hN1 (hi+1-(first+2 ^ kk)) _ _ (by have:=bO kk;omega) ?_
  rw [hW]
  obtain ⟨s1,s2⟩:=KJ (f:=BM) (x:=(first,kk)) hpl hP ht (hS.free ht)
  refine ⟨first+2 ^ kk,ts++[t],bs++[(first,kk)],some (.int (kk:Nat)),rfl,?_,?_,eY (br hS ht) hp,s1,s2⟩
  ·have:(first:Int)+1*2 ^ ((kk:Int)).toNat=((first+2 ^ kk:Nat):Int):=by
    rw [aD,Int.one_mul]
    simp
   show [some (V.int lo),some (V.int hi),some (V.ref p),some (V.int ((first:Int)+1*2 ^ ((kk:Int)).toNat)),some (V.int kk)]=_
   rw [this]
  ·rw [Nt,Ka]
   simp
 ·have Ka:=o9 (lo:=first) hw
  rw [if_pos (by omega)] at Ka
  rw [Ka,cS] at Nt
  walk_at "x"
  exact k H' p hS hp ⟨ts,hpl,by rw [Nt];exact hP⟩
end
section
variable {K:Frag} {C:CC} {vs:List V} {H:Hp} {Q:VK} {E:XK}
open Vbcnan (State Group Part Rule Row Field block coverOf)
section
variable {α : Type}
def LsR (f : α -> List V) (H:Hp) (p:Addr) (xs:List α):Prop:=∃ ts:List Addr,H p=some (.lst (ts.map V.ref))/\Paired (fun t x=>H t=some (.tup (f x))) ts xs
theorem LsF.r {f : α -> List V} {H0 H:Hp} {p:Addr} {xs:List α} (h:LsF f H0 H p xs):LsR f H p xs:=by
 obtain ⟨ts,h1,h2⟩:=h
 exact ⟨ts,h1,Paired.imp (fun t x ⟨_,z⟩=>z) h2⟩
theorem LsR.same {f : α -> List V} {H H':Hp} {p:Addr} {xs:List α} (h:LsR f H p xs) (s:bf H H'):LsR f H' p xs:=by
 obtain ⟨ts,h1,h2⟩:=h
 exact ⟨ts,s _ _ h1,Paired.imp (fun t x z=>s _ _ z) h2⟩
end
def bW (K:Frag):Sp:=fun vs H Q _=>∃ (a:Addr) (es:List Int),vs=[.ref a]/\SqL K H a (es.map V.int)/\dY es/\es.length<=512/\∀ H' p,bf H H'->H p=none->LsF BM H H' p (eD es)->Q (.ref p) H'
theorem JM {es:List Int} (he:dY es) {i:Nat} (hi:i<(bp es).length):∃ lo hi:Nat,es[2*i]? = some (lo:Int)/\es[2*i+1]? = some ((hi:Int)+1)/\(bp es)[i]? = some (lo,hi):=by
 have hpl:=f7 he.wB
 obtain ⟨e1,h1⟩:∃ e1,es[2*i]? = some e1:=⟨_,aC (by omega)⟩
 obtain ⟨e2,h2⟩:∃ e2,es[2*i+1]? = some e2:=⟨_,aC (by omega)⟩
 have b1:=he.bnd e1 (aJ h1)
 have b12:e1<e2:=(jE he.inc h1).2.1 e2 (by
  have:=(ak.mp h2).1
  rw [bq this]
  have e:es[2*i+1]=e2:=(ak.mp h2).2
  rw [e]
  exact ae.mpr (.inl rfl))
 refine ⟨e1.toNat,(e2-1).toNat,?_,?_,oX h1 h2⟩
 ·rw [h1];congr 1;omega
 ·rw [h2];congr 1;omega
theorem Br (h:bW K vs H Q E):nu K bu (Ed Q) (start pH vs) H:=by
 obtain ⟨a,es,rfl,ha,he,hl,k⟩:=h
 have hz:=sizeLine_eq
 unfold nu
 walk_at "x"
 refine ⟨aT _,fun p hp => ?_⟩
 have ha0:SqL K (upd H p (.lst [])) a (es.map V.int):=fe ha hp
 walk_at "x"
 have hpl:=f7 he.wB
 have hn:(es.length+2-1) / 2=(bp es).length:=by omega
 have rg:=DT (len:=es.length) (c:=2) (by decide) (by decide) (by omega)
 rw [hn] at rg
 rw [ab]
 refine ⟨0,_,2,_,rfl,rg,?_⟩
 have hbl:=m6 he
 refine o7 (n:=(bp es).length) (fun i σ H'=>∃ (v:Option V) (ts:List Addr),σ = [some (.ref a),some (.ref p),v]/\bf H H'/\H' p=some (.lst (ts.map V.ref))/\Paired (fun t x=>H t=none/\H' t=some (.tup (BM x))) ts (((bp es).take i).flatMap fun q=>coverOf 32 q.1 q.2))
  ⟨none,[],rfl,eY (bf.refl H) hp,aw,.nil⟩ (fun i σ H' hi _=>hi) (fun σ H' _=>ay _) ?_ ?_
 ·rintro i x σ H1 H' hi ⟨v,ts,rfl,hS,hp1,hP⟩ ⟨rfl,rfl⟩
  obtain ⟨lo,hh,h1,h2,hq⟩:=JM he hi
  have hlt:hh+1<=2 ^ 32:=lU he.bnd he.inc (aJ hq)
  have ha':SqL K H' a (es.map V.int):=hS.seq ha
  have g1:atI (es.map V.int) (0+(i:Nat)*2)=some (.int (lo:Int)):=by
   have:=mE h1
   have e:((2*i:Nat):Int)=0+(i:Nat)*2:=by omega
   rw [<-e];exact this
  have g2:atI (es.map V.int) (0+(i:Nat)*2+1)=some (.int ((hh:Int)+1)):=by
   have:=mE h2
   have e:((2*i+1:Nat):Int)=0+(i:Nat)*2+1:=by omega
   rw [<-e];exact this
  have htl:ts.length=(((bp es).take i).flatMap fun q=>coverOf 32 q.1 q.2).length:=hP.length
  have hf1:(((bp es).take i).flatMap fun q=>coverOf 32 q.1 q.2).length<=((bp es).take i).length*65:=mB fun q hm=>gQ (lU he.bnd he.inc (List.mem_of_mem_take hm))
  rw [bL] at hf1
  have hf2:=gQ (lo:=lo) hlt
  walk_at "x"
  refine ⟨lo,hh,32,by rw [Int.add_sub_cancel];rfl,hlt,ay _,fun H2 q hS2 hq0 hL => ?_⟩
  obtain ⟨us,hu1,hu2⟩:=hL
  have hp2:=hS2 _ _ hp1
  have hul:us.length=(coverOf 32 lo hh).length:=hu2.length
  walk_at "x"
  refine Cr hp2 hu1 (by rw [ab,ab];omega) ?_
  walk_at "x"
  have hpH:∀ b o,H2 b=some o->b≠p->upd H2 p (.lst (ts.map V.ref++us.map V.ref)) b=some o:=fun b o e hb=>by rw [au hb];exact e
  refine ⟨_,ts++us,rfl,eY (hS.trans hS2) hp,by rw [aw,bt],?_⟩
  have et:((bp es).take (i+1)).flatMap (fun q=>coverOf 32 q.1 q.2)=(((bp es).take i).flatMap fun q=>coverOf 32 q.1 q.2)++coverOf 32 lo hh:=by
   rw [cQ,hq,da]
   simp
  rw [et]
  refine Paired.append (Paired.imp (fun t x ⟨y,z⟩=>⟨y,?_⟩) hP) (Paired.imp (fun t x ⟨y,z⟩=>⟨hS.free y,?_⟩) hu2)
  ·exact hpH _ _ (hS2 _ _ z) (bR z hp1 (by intro q;cases q))
  ·exact hpH _ _ z (bR z hp2 (by intro q;cases q))
 ·rintro σ H' ⟨v,ts,rfl,hS,hp1,hP⟩
  rw [a8 (ay _)] at hP
  walk_at "x"
  exact k H' p hS hp ⟨ts,hp1,hP⟩
def bS:Sp:=fun vs H Q _=>∃ (a:Addr) (bs:List (Nat×Nat)),vs=[.ref a]/\LsR BM H a bs/\bs.length<=1000000/\∀ H' p,bf H H'->H p=none->H' p=some (.lst (([0,(bs.length:Int)]++bs.flatMap fun b=>[(b.1:Int),(b.2:Int)]).map V.int))->Q (.ref p) H'
theorem zi (h:bS vs H Q E):lY K (Ed Q) (start nO vs) H:=by
 obtain ⟨a,bs,rfl,⟨ts,hts,hP⟩,hl,k⟩:=h
 have hz:=sizeLine_eq
 have ha:SqL K H a (ts.map V.ref):=SqL.of hts
 have htl:ts.length=bs.length:=hP.length
 unfold lY
 walk_at "x"
 rw [ab,htl]
 refine ⟨by show 2<=sizeLine;omega,fun p hp => ?_⟩
 have ha0:SqL K (upd H p (.lst [.int 0,.int (bs.length:Int)])) a (ts.map V.ref):=fe ha hp
 walk_at "x"
 have key:∀ bs':List (Nat×Nat),(bs'.flatMap fun b=>[(b.1:Int),(b.2:Int)]).length=2*bs'.length:=fun bs'=>wA bs'
 refine dO (K:=K) (a:=a) (xs:=ts.map V.ref) (fun i σ H'=>∃ v2 v3:Option V,σ = [some (.ref a),some (.ref p),v2,v3]/\bf H H'/\H' p=some (.lst (([0,(bs.length:Int)]++(bs.take i).flatMap fun b=>[(b.1:Int),(b.2:Int)]).map V.int)))
  ⟨none,none,rfl,eY (bf.refl H) hp,aw⟩ (fun i σ H' _ ⟨_,_,_,hS,_⟩=>SqL.of (hS _ _ hts)) ?_ ?_
 ·rintro i x σ H' hx ⟨v2,v3,rfl,hS,hp1⟩
  obtain ⟨t,rfl,ht⟩:=cX hx
  obtain ⟨b,hb,htb⟩:=Paired.get hP ht
  have hts:SqT K H' t [.int (b.1:Nat),.int (b.2:Nat)]:=SqT.of (hS _ _ htb)
  have hil:=(ak.mp hb).1
  have hlen:(([0,(bs.length:Int)]++(bs.take i).flatMap fun b=>[(b.1:Int),(b.2:Int)]).map V.int).length+1<sizeLine:=by
   rw [ab,aG,key,bL]
   show 2+_+1<_
   omega
  walk_at "x"
  refine eT hp1 (by omega) ?_
  have hp2:upd H' p (.lst (([0,(bs.length:Int)]++(bs.take i).flatMap fun b=>[(b.1:Int),(b.2:Int)]).map V.int++[.int (b.1:Nat)])) p=some (.lst (([0,(bs.length:Int)]++(bs.take i).flatMap fun b=>[(b.1:Int),(b.2:Int)]).map V.int++[.int (b.1:Nat)])):=aw
  walk_at "x"
  refine eT hp2 (by rw [aG,cg];exact hlen) ?_
  rw [gS]
  refine ⟨_,_,rfl,eY hS hp,?_⟩
  rw [aw]
  have et:((bs.take (i+1)).flatMap fun b=>[(b.1:Int),(b.2:Int)])=((bs.take i).flatMap fun b=>[(b.1:Int),(b.2:Int)])++[(b.1:Int),(b.2:Int)]:=by
   rw [cQ,hb,da]
   simp
  rw [et]
  simp
 ·rintro σ H' ⟨v2,v3,rfl,hS,hp1⟩
  rw [a8 (by rw [ab];omega)] at hp1
  walk_at "x"
  exact k H' p hS hp hp1
def bg:Sp:=fun vs H Q _=>∃ a b c d:Nat,vs=[.int a,.int b,.int c,.int d]/\Lt4 a b c d/\Q (.int (pk a b c d:Nat)) H
theorem or_int {a b n:Nat} (hb:b<2 ^ n):Builtin.bitOr ((a:Int)*2 ^ n) (b:Int)=((2 ^ n*a+b:Nat):Int):=by
 have e:((a:Int)*2 ^ n)=((a*2 ^ n:Nat):Int):=by simp
 rw [e,Mf.L5 (by omega) (by omega),aD,aD,MB hb]
theorem rG (h:bg vs H Q E):hJ K (Ed Q) (start iZ vs) H:=by
 obtain ⟨a,b,c,d,rfl,hL,k⟩:=h
 have h1:=hL.a
 have h2:=hL.b
 have h3:=hL.c
 have h4:=hL.d
 unfold hJ
 walk_at "x"
 refine yP (show uf _ _ from ⟨by decide,by decide,by omega⟩) ?_
 walk_at "x"
 have e1:Builtin.bitOr ((a:Int)*2 ^ (32:Int).toNat) (b:Int)=((2 ^ 32*a+b:Nat):Int):=or_int h2
 rw [e1]
 refine yP (show uf _ _ from ⟨by decide,by decide,by omega⟩) ?_
 walk_at "x"
 have e2:Builtin.bitOr (((2 ^ 32*a+b:Nat):Int)*2 ^ (8:Int).toNat) (c:Int)=((2 ^ 8*(2 ^ 32*a+b)+c:Nat):Int):=or_int h3
 rw [e2]
 refine yP (show uf _ _ from ⟨by decide,by decide,by omega⟩) ?_
 walk_at "x"
 have e3:Builtin.bitOr (((2 ^ 8*(2 ^ 32*a+b)+c:Nat):Int)*2 ^ (16:Int).toNat) (d:Int)=((2 ^ 16*(2 ^ 8*(2 ^ 32*a+b)+c)+d:Nat):Int):=or_int h4
 rw [e3]
 exact k
def dB:Sp:=fun vs H Q _=>∃ a b c d:Nat,vs=[.int (pk a b c d:Nat)]/\Lt4 a b c d/\∀ p,H p=none->Q (.ref p) (upd H p (.lst [.int (a:Nat),.int (b:Nat),.int (c:Nat),.int (d:Nat)]))
theorem and_int {a n m:Nat} (e:m=2 ^ n-1):Builtin.bitAnd (a:Int) (m:Int)=((a%2 ^ n:Nat):Int):=by
 rw [bitAnd_pp (by omega) (by omega),aD,aD,e,iu]
theorem Ex (a n:Nat):(a:Int) / 2 ^ n=((a / 2 ^ n:Nat):Int):=by
 rw [Int.natCast_ediv]
 simp
theorem Bj (h:dB vs H Q E):m9 K (Ed Q) (start px vs) H:=by
 obtain ⟨a,b,c,d,rfl,hL,k⟩:=h
 have hz:=sizeLine_eq
 obtain ⟨h1,h2,h3,h4⟩:=K4 hL
 generalize pk a b c d=n at h1 h2 h3 h4
 unfold m9
 walk_at "x"
 have e1:(n:Int) / 2 ^ (16:Int).toNat=((n / 2 ^ 16:Nat):Int):=Ex _ _
 have e2:((n / 2 ^ 16:Nat):Int) / 2 ^ (8:Int).toNat=((n / 2 ^ 16 / 2 ^ 8:Nat):Int):=Ex _ _
 have e3:((n / 2 ^ 16 / 2 ^ 8:Nat):Int) / 2 ^ (32:Int).toNat=((n / 2 ^ 16 / 2 ^ 8 / 2 ^ 32:Nat):Int):=Ex _ _
 have f1:Builtin.bitAnd ((n / 2 ^ 16 / 2 ^ 8:Nat):Int) 4294967295=((n / 2 ^ 16 / 2 ^ 8%2 ^ 32:Nat):Int):=and_int (m:=4294967295) rfl
 have f2:Builtin.bitAnd ((n / 2 ^ 16:Nat):Int) 255=((n / 2 ^ 16%2 ^ 8:Nat):Int):=and_int (m:=255) rfl
 have f3:Builtin.bitAnd (n:Int) 65535=((n%2 ^ 16:Nat):Int):=and_int (m:=65535) rfl
 rw [e1,e2,e3,f1,f2,f3,h1,h2,h3,h4]
 exact ⟨by show 4<=sizeLine;omega,k⟩
end
section
variable {K:Frag} {C:CC} {vs:List V} {H:Hp} {Q:VK} {E:XK}
open Vbcnan (State Group Part Rule Field block coverOf)
def tP (f:Field):List V:=[.int (f.value:Nat),.int (f.mask:Nat)]
def eC (r:Vbcnan.Row):List Field:=[r.src,r.dst,r.kind,r.port]
def bT (K:Frag):Sp:=fun vs H Q _=>∃ (q:Addr) (r:Vbcnan.Row),vs=[.ref q]/\SqT K H q (g6 r)/\dP r/\∀ H' p,bf H H'->H p=none->LsF tP H H' p (eC r)->Q (.ref p) H'
theorem zk (h:bT K vs H Q E):l4 K dB (Ed Q) (start nQ vs) H:=by
 obtain ⟨q,r,rfl,hq,hok,k⟩:=h
 have hz:=sizeLine_eq
 have hq:SqT K H q [.int (if r.pass then 1 else 0),.int (pv r:Nat),.int (pm r:Nat)]:=hq
 unfold l4
 walk_at "x"
 unfold KC
 walk_at "x"
 refine ⟨r.src.value,r.dst.value,r.kind.value,r.port.value,rfl,hok.lv,fun p1 hp1 => ?_⟩
 have hq1:SqT K (upd H p1 (.lst [.int (r.src.value:Nat),.int (r.dst.value:Nat),.int (r.kind.value:Nat),.int (r.port.value:Nat)])) q [.int (if r.pass then 1 else 0),.int (pv r:Nat),.int (pm r:Nat)]:=MC hq hp1
 walk_at "x"
 refine ⟨r.src.mask,r.dst.mask,r.kind.mask,r.port.mask,rfl,hok.lm,fun p2 hp2 => ?_⟩
 have sm1:bf H (upd H p1 (.lst [.int (r.src.value:Nat),.int (r.dst.value:Nat),.int (r.kind.value:Nat),.int (r.port.value:Nat)])):=br (bf.refl H) hp1
 have sm2:=br (o:=.lst [.int (r.src.mask:Nat),.int (r.dst.mask:Nat),.int (r.kind.mask:Nat),.int (r.port.mask:Nat)]) sm1 hp2
 refine ⟨p1,p2,[.int (r.src.value:Nat),.int (r.dst.value:Nat),.int (r.kind.value:Nat),.int (r.port.value:Nat)],[.int (r.src.mask:Nat),.int (r.dst.mask:Nat),.int (r.kind.mask:Nat),.int (r.port.mask:Nat)],rfl,SqL.of (by rw [au (az aw hp2)];exact aw),SqL.of aw,rfl,by show 4<sizeLine;omega,fun H2 S ts kp hS hl hlen hfr hat => ?_⟩
 refine k H2 S (sm2.trans kp) (sm2.free hS) ⟨ts,hl,?_⟩
 have fr:∀ t,t∈ts->H t=none:=fun t ht=>sm2.free (hfr t ht)
 obtain ⟨t0,t1,t2,t3,rfl⟩:∃ t0 t1 t2 t3,ts=[t0,t1,t2,t3]:=by
  cases ts with
  |nil=>cases hlen
  |cons t0 ts =>
   cases ts with
   |nil=>cases hlen
   |cons t1 ts =>
    cases ts with
    |nil=>cases hlen
    |cons t2 ts =>
     cases ts with
     |nil=>cases hlen
     |cons t3 ts =>
      cases ts with
      |nil=>exact ⟨t0,t1,t2,t3,rfl⟩
      |cons t4 ts=>cases hlen
 have g:∀ (j:Nat) (t:Addr) (x y:V),[t0,t1,t2,t3][j]? = some t->[V.int (r.src.value:Nat),.int (r.dst.value:Nat),.int (r.kind.value:Nat),.int (r.port.value:Nat)][j]? = some x->[V.int (r.src.mask:Nat),.int (r.dst.mask:Nat),.int (r.kind.mask:Nat),.int (r.port.mask:Nat)][j]? = some y->H2 t=some (.tup [x,y]):=fun j t x y h1 h2 h3=>by
  obtain ⟨x',y',e1,e2,e3⟩:=hat j t h1
  rw [h2] at e1
  rw [h3] at e2
  cases e1
  cases e2
  exact e3
 exact .cons ⟨fr t0 (by simp),g 0 t0 _ _ rfl rfl rfl⟩ (.cons ⟨fr t1 (by simp),g 1 t1 _ _ rfl rfl rfl⟩ (.cons ⟨fr t2 (by simp),g 2 t2 _ _ rfl rfl rfl⟩ (.cons ⟨fr t3 (by simp),g 3 t3 _ _ rfl rfl rfl⟩ .nil)))
def bP:Sp:=fun vs H Q _=>∃ (a:Addr) (bs:List (Nat×Nat)) (w:Nat),vs=[.ref a,.int w]/\LsR BM H a bs/\(∀ b,b∈bs->b.2<=w)/\w<=32/\bs.length<=1000000/\∀ H' p,bf H H'->H p=none->LsF tP H H' p (bs.map (block w))->Q (.ref p) H'
theorem Lq {w k:Nat} (h:k<=w):(1*(2:Int) ^ ((w:Int)-(k:Int)).toNat-1)*2 ^ ((k:Int)).toNat=(((2 ^ (w-k)-1)*2 ^ k:Nat):Int):=by
 have e1:((w:Int)-(k:Int)).toNat=w-k:=by omega
 have hp:=bO (w-k)
 rw [e1,aD,Int.one_mul]
 have e2:(2:Int) ^ (w-k)=((2 ^ (w-k):Nat):Int):=by simp
 have e3:(2:Int) ^ k=((2 ^ k:Nat):Int):=by simp
 have e4:((2 ^ (w-k):Nat):Int)-1=((2 ^ (w-k)-1:Nat):Int):=by omega
 rw [e2,e3,e4]
 simp
theorem rJ (h:bP vs H Q E):ia K (Ed Q) (start f9 vs) H:=by
 obtain ⟨a,bs,w,rfl,⟨ts,hts,hP⟩,hk,hw,hl,k⟩:=h
 have hz:=sizeLine_eq
 have htl:ts.length=bs.length:=hP.length
 have ha:SqL K H a (ts.map V.ref):=SqL.of hts
 unfold ia
 walk_at "x"
 intro D hD
 refine Ls (J:=Itl K a) (n:=ts.length) (fun i H'=>∃ us:List Addr,bf H H'/\H' D=some (.lst (us.map V.ref))/\Paired (fun t x=>H t=none/\H' t=some (.tup (tP x))) us ((bs.map (block w)).take i))
  ⟨[],eY (bf.refl H) hD,aw,.nil⟩ (fun i H' hi ⟨us,hS,_⟩=>⟨ts.map V.ref,_,SqL.of (hS _ _ hts),aC (by rw [ab];exact hi)⟩) (fun H' ⟨us,hS,_⟩=>⟨ts.map V.ref,SqL.of (hS _ _ hts),by rw [ab];exact ay _⟩) ?_ ?_
 ·rintro i x H1 H' hi ⟨us,hS,hD1,hPu⟩ ⟨rfl,hy⟩
  have hx:=hy _ (SqL.of (hS _ _ hts))
  obtain ⟨t,rfl,ht⟩:=cX hx
  obtain ⟨b,hb,htb⟩:=Paired.get hP ht
  have hbk:=hk b (aJ hb)
  have Pq:SqT K H' t [.int (b.1:Nat),.int (b.2:Nat)]:=SqT.of (hS _ _ htb)
  have hul:us.length=((bs.map (block w)).take i).length:=hPu.length
  rw [bL,ab] at hul
  walk_at "x"
  refine ⟨rfl,?_⟩
  walk_at "x"
  refine yP (show uf _ _ from ⟨by omega,by omega,by decide⟩) ?_
  walk_at "x"
  have hp2:(2:Nat) ^ (w-b.2)<=2 ^ 32:=j7 (by decide) (by omega)
  have e1:((w:Int)-((b.2:Nat):Int)).toNat=w-b.2:=by omega
  have e2:(1:Int)*2 ^ ((w:Int)-((b.2:Nat):Int)).toNat=((2 ^ (w-b.2):Nat):Int):=by rw [e1,Int.one_mul];simp
  refine yP (show uf _ _ from ⟨by omega,by omega,by
   have hp0:=bO (w-b.2)
   generalize (2:Nat) ^ (w-b.2)=z at e2 hp2 hp0
   rw [e2]
   omega⟩) ?_
  rw [Lq hbk]
  walk_at "x"
  refine ⟨by show 2<=sizeLine;omega,fun p hp=>⟨us.map V.ref,by rw [au (az hD1 hp)];exact hD1,by rw [ab];omega,?_⟩⟩
  obtain ⟨s1,s2⟩:=KJ (f:=tP) (x:=block w b) hD1 hPu hp (hS.free hp)
  refine ⟨us++[p],eY (br hS hp) hD,s1,?_⟩
  have et:(bs.map (block w)).take (i+1)=(bs.map (block w)).take i++[block w b]:=by
   rw [cQ,a9,hb]
   rfl
  rw [et]
  exact s2
 ·rintro H' ⟨us,hS,hD1,hPu⟩
  rw [a8 (by rw [ab];omega)] at hPu
  exact k H' D hS hD ⟨us,hD1,hPu⟩
def jK:Option Nat->Field
 |some k=>⟨k,255⟩
 |none=>⟨0,0⟩
def cU:Sp:=fun vs H Q _=>∃ o:Option Nat,vs=[eZ o]/\∀ p,H p=none->Q (.ref p) (upd H p (.tup (tP (jK o))))
theorem vW (h:cU vs H Q E):jN K (Ed Q) (start k8 vs) H:=by
 obtain ⟨o,rfl,k⟩:=h
 have hz:=sizeLine_eq
 unfold jN
 cases o with
 |none =>
  show _
  unfold eZ
  walk_at "x"
  exact ⟨by show 2<=sizeLine;omega,k⟩
 |some n =>
  unfold eZ
  walk_at "x"
  exact ⟨by show 2<=sizeLine;omega,k⟩
theorem KO {K:Frag} {H H':Hp} {a:Addr} {xs:List V} (e:bf H H') (h:SqT K H a xs):SqT K H' a xs:=by
 rcases h with (h|⟨q,h⟩)|h
 ·exact .inl (.inl (e _ _ h))
 ·exact .inl (.inr ⟨q,e _ _ h⟩)
 ·exact .inr h
theorem C2 {α β : Type} {l:List α} {i:Nat} {x : α} {f : α -> List β} (h:l[i]? = some x):(l.drop i).flatMap f=f x++(l.drop (i+1)).flatMap f:=by
 obtain ⟨h1,h2⟩:=ak.mp h
 rw [bq h1,h2,dh]
theorem LR {α β : Type} {l:List α} {i:Nat} {x : α} {f : α -> β} (h:l[i]? = some x):(l.drop i).map f=f x::(l.drop (i+1)).map f:=by
 obtain ⟨h1,h2⟩:=ak.mp h
 rw [bq h1,h2,aW]
def rawOf (ss ds:List (Nat×Nat)) (r:Rule):List Vbcnan.Row:=(ss.map (block 32)).flatMap fun a=>(ds.map (block 32)).flatMap fun b=>((coverOf 16 r.lo r.hi).map (block 16)).map fun c=>⟨a,b,jK r.kind,c,r.pass⟩
theorem KW {gs:List Group} {ss ds:List (Nat×Nat)} {r:Rule} (hs:Vbcnan.fieldsOf gs r.src=ss.map (block 32)) (hd:Vbcnan.fieldsOf gs r.dst=ds.map (block 32)):Vbcnan.rowsOf gs r=rawOf ss ds r:=by
 unfold Vbcnan.rowsOf rawOf
 rw [hs,hd]
 rfl
theorem Qm (ss ds:List (Nat×Nat)) (r:Rule):(rawOf ss ds r).length=ss.length*(ds.length*(coverOf 16 r.lo r.hi).length):=by
 unfold rawOf
 rw [jf _ (ds.length*(coverOf 16 r.lo r.hi).length) fun a _ => ?_,ab]
 rw [jf _ (coverOf 16 r.lo r.hi).length fun b _ => ?_,ab]
 rw [ab,ab]
def cT (K:Frag):Sp:=fun vs H Q _=>∃ (q a1 a2 a3:Addr) (r:Rule) (ss ds:List (Nat×Nat)),vs=[.ref q,.ref a1,.ref a2,.ref a3]/\SqT K H q (qm r)/\LsR BM H a1 ss/\LsR BM H a2 ds/\LsR BM H a3 (coverOf 16 r.lo r.hi) /\
 (∀ b,b∈ss->b.2<=32)/\(∀ b,b∈ds->b.2<=32)/\ss.length<=1000000/\ds.length<=1000000/\r.hi<=65535/\(rawOf ss ds r).length<=1024/\(∀ x,x∈rawOf ss ds r->dP x) /\
 ∀ H' p,bf H H'->H p=none->LsF g6 H H' p (rawOf ss ds r)->Q (.ref p) H'
theorem vV (h:cT K vs H Q E):jM K cU bP bg (Ed Q) (start k7 vs) H:=by
 obtain ⟨q,a1,a2,a3,r,ss,ds,rfl,hq,hs,hd,hpp,hsk,hdk,hsl,hdl,hhi,hlen,hok,k⟩:=h
 have hz:=sizeLine_eq
 have hq:SqT K H q [.int (if r.pass then 1 else 0),eZ r.src,eZ r.dst,eZ r.kind,.int r.lo,.int r.hi]:=hq
 have hpl:(coverOf 16 r.lo r.hi).length<=33:=gQ (by omega)
 unfold jM
 walk_at "x"
 refine ⟨r.kind,rfl,fun kp hkp => ?_⟩
 have sm1:=br (o:=.tup (tP (jK r.kind))) (bf.refl H) hkp
 have hk1:upd H kp (.tup (tP (jK r.kind))) kp=some (.tup (tP (jK r.kind))):=aw
 generalize upd H kp (.tup (tP (jK r.kind)))=H1 at sm1 hk1 ⊢
 walk_at "x"
 refine ⟨a2,ds,32,rfl,hd.same sm1,hdk,by decide,hdl,fun H2 tf sm2 htf hT => ?_⟩
 obtain ⟨t1,ht1,ht2⟩:=hT
 walk_at "x"
 refine ⟨a3,coverOf 16 r.lo r.hi,16,rfl,hpp.same (sm1.trans sm2),fun b hb=>(wC (by omega) hb).1,by decide,by omega,fun H3 pf sm3 hpf hPt => ?_⟩
 obtain ⟨u1,hu1,hu2⟩:=hPt
 walk_at "x"
 refine ⟨aT _,fun p hp => ?_⟩
 have OU:=(sm1.trans sm2).trans sm3
 have sm4:=br (o:=.lst []) (bf.refl H3) hp
 have hp4:upd H3 p (.lst []) p=some (.lst []):=aw
 have npt:tf≠p:=az (sm3 _ _ ht1) hp
 have npu:pf≠p:=az hu1 hp
 generalize upd H3 p (.lst [])=H4 at sm4 hp4 ⊢
 have hp0:H p=none:=OU.free hp
 walk_at "x"
 refine ⟨a1,ss,32,rfl,hs.same (OU.trans sm4),hsk,by decide,hsl,fun H5 sf sm5 hsf hS5 => ?_⟩
 obtain ⟨s1,hs1,hs2⟩:=hS5
 have nps:sf≠p:=fun e=>by rw [e,hp4] at hsf;cases hsf
 have Jz:=sm4.trans sm5
 have hk5:=(sm2.trans sm3).trans Jz _ _ hk1
 have hp5:=sm5 _ _ hp4
 have QY:=OU.trans Jz
 have ht5:=(sm3.trans Jz) _ _ ht1
 have hu5:=Jz _ _ hu1
 have hsq:SqL K H5 sf (s1.map V.ref):=SqL.of hs1
 have hq5:SqT K H5 q [.int (if r.pass then 1 else 0),eZ r.src,eZ r.dst,eZ r.kind,.int r.lo,.int r.hi]:=KO QY hq
 have S4:kp≠p:=bR hk5 hp5 (by intro z;cases z)
 obtain ⟨F,hF⟩:∃ F:Field->List Vbcnan.Row,F=fun a=>(ds.map (block 32)).flatMap fun b=>((coverOf 16 r.lo r.hi).map (block 16)).map fun c=>⟨a,b,jK r.kind,c,r.pass⟩:=⟨_,rfl⟩
 have SM:rawOf ss ds r=(ss.map (block 32)).flatMap F:=by rw [hF];rfl
 obtain ⟨St,hSt⟩:∃ St:Hp->List Vbcnan.Row->Prop,St=fun H' rows=>∃ ts:List Addr,bf H H'/\(∀ b o,H5 b=some o->b≠p->H' b=some o)/\H' p=some (.lst (ts.map V.ref))/\Paired (fun t x=>H t=none/\H' t=some (.tup (g6 x))) ts rows:=⟨_,rfl⟩
 have keep:∀ {H' rows},St H' rows->∀ b o,H5 b=some o->b≠p->H' b=some o:=fun h=>by rw [hSt] at h;obtain ⟨_,_,h,_⟩:=h;exact h
 have Ll:∀ {b xs},H5 b=some (HO.tup xs)->b≠p:=fun e=>bR e hp5 (by intro z;cases z)
 walk_at "x"
 refine dO (K:=K) (a:=sf) (xs:=s1.map V.ref) (fun i σ H'=>∃ (rows:List Vbcnan.Row) (v8 v9 v10 v11 v12:Option V),σ = [some (.ref q),some (.ref a1),some (.ref a2),some (.ref a3),some (.ref kp),some (.ref tf),some (.ref pf),some (.ref p),v8,v9,v10,v11,v12]/\St H' rows/\rows++((ss.map (block 32)).drop i).flatMap F=rawOf ss ds r)
  ⟨[],none,none,none,none,none,rfl,by rw [hSt];exact ⟨[],QY,fun b o e _=>e,hp5,.nil⟩,by rw [SM];rfl⟩ (fun i σ H' _ ⟨_,_,_,_,_,_,_,h,_⟩=>SqL.of (keep h _ _ hs1 nps)) ?_ ?_
 ·rintro i x σ H6 hx ⟨rows,v8,v9,v10,v11,v12,rfl,h6,e6⟩
  obtain ⟨ta,rfl,hta⟩:=cX hx
  obtain ⟨fa,hfa,_,Ri⟩:=Paired.get hs2 hta
  rw [C2 hfa,hF] at e6
  rw [<-hF] at e6
  have SG:=keep h6 _ _ ht5 npt
  have T6:SqL K H6 tf (t1.map V.ref):=SqL.of SG
  walk_at "x"
  refine dO (K:=K) (a:=tf) (xs:=t1.map V.ref) (fun j σ H'=>∃ (rows:List Vbcnan.Row) (v9 v10 v11 v12:Option V),σ = [some (.ref q),some (.ref a1),some (.ref a2),some (.ref a3),some (.ref kp),some (.ref tf),some (.ref pf),some (.ref p),some (.ref ta),v9,v10,v11,v12]/\St H' rows /\
   rows++((((ds.map (block 32)).drop j).flatMap fun b=>((coverOf 16 r.lo r.hi).map (block 16)).map fun c=>⟨fa,b,jK r.kind,c,r.pass⟩)++((ss.map (block 32)).drop (i+1)).flatMap F)=rawOf ss ds r)
   ⟨rows,v9,v10,v11,v12,rfl,h6,by rw [<-e6,hF];rfl⟩ (fun j σ H' _ ⟨_,_,_,_,_,_,h,_⟩=>SqL.of (keep h _ _ ht5 npt)) ?_ ?_
  ·rintro j y σ H7 hy ⟨rows,v9,v10,v11,v12,rfl,h7,e7⟩
   obtain ⟨tb,rfl,htb⟩:=cX hy
   obtain ⟨fb,hfb,SJ⟩:=Paired.get ht2 htb
   have Rh:=(sm3.trans Jz) _ _ SJ.2
   rw [C2 hfb] at e7
   have SE:=keep h7 _ _ hu5 npu
   have TZ:SqL K H7 pf (u1.map V.ref):=SqL.of SE
   walk_at "x"
   refine dO (K:=K) (a:=pf) (xs:=u1.map V.ref) (fun l σ H'=>∃ (rows:List Vbcnan.Row) (v10 v11 v12:Option V),σ = [some (.ref q),some (.ref a1),some (.ref a2),some (.ref a3),some (.ref kp),some (.ref tf),some (.ref pf),some (.ref p),some (.ref ta),some (.ref tb),v10,v11,v12]/\St H' rows /\
    rows++((((coverOf 16 r.lo r.hi).map (block 16)).drop l).map (fun c=>(⟨fa,fb,jK r.kind,c,r.pass⟩:Vbcnan.Row))++((((ds.map (block 32)).drop (j+1)).flatMap fun b=>((coverOf 16 r.lo r.hi).map (block 16)).map fun c=>⟨fa,b,jK r.kind,c,r.pass⟩)++((ss.map (block 32)).drop (i+1)).flatMap F))=rawOf ss ds r)
    ⟨rows,v10,v11,v12,rfl,h7,by rw [<-e7,di];rfl⟩ (fun l σ H' _ ⟨_,_,_,_,_,h,_⟩=>SqL.of (keep h _ _ hu5 npu)) ?_ ?_
   ·rintro l z σ H8 hz' ⟨rows,v10,v11,v12,rfl,h8,e8⟩
    obtain ⟨tc,rfl,htc⟩:=cX hz'
    obtain ⟨fc,hfc,SI⟩:=Paired.get hu2 htc
    have Rg:=Jz _ _ SI.2
    have sa:SqT K H8 ta [.int (fa.value:Nat),.int (fa.mask:Nat)]:=SqT.of (keep h8 _ _ Ri (Ll Ri))
    have sb:SqT K H8 tb [.int (fb.value:Nat),.int (fb.mask:Nat)]:=SqT.of (keep h8 _ _ Rh (Ll Rh))
    have sc:SqT K H8 tc [.int (fc.value:Nat),.int (fc.mask:Nat)]:=SqT.of (keep h8 _ _ Rg (Ll Rg))
    have sk:SqT K H8 kp [.int ((jK r.kind).value:Nat),.int ((jK r.kind).mask:Nat)]:=SqT.of (keep h8 _ _ hk5 S4)
    rw [LR hfc] at e8
    have Nm:dP ⟨fa,fb,jK r.kind,fc,r.pass⟩:=hok _ (by rw [<-e8];simp)
    have hrl:=congrArg List.length e8
    rw [aG] at hrl
    have e8':=h8
    rw [hSt] at e8'
    obtain ⟨ts,hS8,hk8,hp8,hP8⟩:=e8'
    have htl:ts.length=rows.length:=hP8.length
    have hq8:SqT K H8 q [.int (if r.pass then 1 else 0),eZ r.src,eZ r.dst,eZ r.kind,.int r.lo,.int r.hi]:=KO hS8 hq
    walk_at "x"
    refine ⟨fa.value,fb.value,(jK r.kind).value,fc.value,rfl,Nm.lv,?_⟩
    walk_at "x"
    refine ⟨fa.mask,fb.mask,(jK r.kind).mask,fc.mask,rfl,Nm.lm,?_⟩
    walk_at "x"
    refine ⟨by show 3<=sizeLine;omega,fun t ht => ?_⟩
    have hpt:upd H8 t (.tup (g6 ⟨fa,fb,jK r.kind,fc,r.pass⟩)) p=some (.lst (ts.map V.ref)):=by rw [au (az hp8 ht)];exact hp8
    walk_at "x"
    refine eT hpt (by rw [ab];omega) ?_
    obtain ⟨w1,w2⟩:=KJ (f:=g6) (x:=⟨fa,fb,jK r.kind,fc,r.pass⟩) hp8 hP8 ht (hS8.free ht)
    refine ⟨rows++[⟨fa,fb,jK r.kind,fc,r.pass⟩],_,_,_,rfl,?_,by rw [<-e8];simp⟩
    rw [hSt]
    refine ⟨ts++[t],eY (br hS8 ht) hp0,fun b o e hb => ?_,w1,w2⟩
    rw [au hb,au (az (hk8 b o e hb) ht)]
    exact hk8 b o e hb
   ·rintro σ H8 ⟨rows,v10,v11,v12,rfl,h8,e8⟩
    have hul:u1.length=((coverOf 16 r.lo r.hi).map (block 16)).length:=hu2.length
    rw [c7 (by simp only [ab] at hul ⊢; omega)] at e8
    exact ⟨rows,_,_,_,_,rfl,h8,e8⟩
  ·rintro σ H7 ⟨rows,v9,v10,v11,v12,rfl,h7,e7⟩
   have htl:t1.length=(ds.map (block 32)).length:=ht2.length
   rw [c7 (as:=ds.map (block 32)) (by simp only [ab] at htl ⊢; omega)] at e7
   exact ⟨rows,_,_,_,_,_,rfl,h7,e7⟩
 ·rintro σ H6 ⟨rows,v8,v9,v10,v11,v12,rfl,h6,e6⟩
  have SK:s1.length=(ss.map (block 32)).length:=hs2.length
  rw [c7 (by simp only [ab] at SK ⊢; omega),List.flatMap_nil,cS] at e6
  rw [hSt] at h6
  obtain ⟨ts,hS6,_,hp6,hP6⟩:=h6
  walk_at "x"
  exact k H6 p hS6 hp0 ⟨ts,hp6,by rw [<-e6];exact hP6⟩
end
section
variable {K:Frag} {C:CC} {vs:List V} {H:Hp} {Q:VK} {E:XK}
open Vbcnan (State Group Part Rule Field block coverOf)
def eJ:Sp:=fun vs H Q _=>∃ n:Nat,vs=[.int n]/\Q (.bl (FX n)) H
theorem Bo (h:eJ vs H Q E):nj K (Ed Q) (start pE vs) H:=by
 obtain ⟨n,rfl,k⟩:=h
 unfold FX at k
 unfold nj
 by_cases h0:n=0
 ·subst h0
  walk_at "x"
  exact k
 ·have e1:decide (n≠0)=true:=decide_eq_true h0
  rw [e1,lS] at k
  have e2:Builtin.bitAnd (n:Int) ((n:Int)-1)=((n &&& (n-1):Nat):Int):=by
   rw [bitAnd_pp (by omega) (by omega),aD]
   congr 2
   omega
  have e3:decide (((n &&& (n-1):Nat):Int)=0)=decide (n &&& (n-1)=0):=decide_eq_decide.mpr (by omega)
  walk_at "x"
  rw [e2,e3]
  exact k
theorem MU (a b:Bool):decide ((if a=true then (1:Int) else 0)=(if b=true then 1 else 0))=(a==b):=by
 cases a<;>cases b<;>rfl
def cV (K:Frag):Sp:=fun vs H Q _=>∃ (q1 q2:Addr) (r1 r2:Vbcnan.Row),vs=[.ref q1,.ref q2]/\SqT K H q1 (g6 r1)/\SqT K H q2 (g6 r2)/\Q (.bl (EA r1 r2)) H
theorem vX (h:cV K vs H Q E):jO K eJ (Ed Q) (start k9 vs) H:=by
 obtain ⟨q1,q2,r1,r2,rfl,h1,h2,k⟩:=h
 have h1:SqT K H q1 [.int (if r1.pass then 1 else 0),.int (pv r1:Nat),.int (pm r1:Nat)]:=h1
 have h2:SqT K H q2 [.int (if r2.pass then 1 else 0),.int (pv r2:Nat),.int (pm r2:Nat)]:=h2
 unfold EA at k
 have e1:decide (((pm r1:Nat):Int)=((pm r2:Nat):Int))=decide (pm r1=pm r2):=decide_eq_decide.mpr (by omega)
 have e2:Builtin.bitXor ((pv r1:Nat):Int) ((pv r2:Nat):Int)=((pv r1 ^^^ pv r2:Nat):Int):=by rw [Mf.wI (by omega) (by omega),aD,aD]
 unfold jO
 walk_at "x"
 rw [MU]
 walk_at "x"
 cases c1:(r1.pass==r2.pass) with
 |false =>
  rw [c1] at k
  walk_at "x"
  exact k
 |true =>
  rw [c1] at k
  walk_at "x"
  rw [e1]
  cases c2:decide (pm r1=pm r2) with
  |false =>
   rw [c2] at k
   walk_at "x"
   exact k
  |true =>
   rw [c2] at k
   walk_at "x"
   rw [e2]
   exact ⟨_,rfl,k⟩
def fP (K:Frag):Sp:=fun vs H Q _=>∃ (q1 q2:Addr) (r1 r2 x:Vbcnan.Row),vs=[.ref q1,.ref q2]/\SqT K H q1 (g6 r1)/\SqT K H q2 (g6 r2)/\x.pass=r1.pass/\pv x=pv r1 &&& pv r2/\pm x=pm r1 ^^^ (pv r1 ^^^ pv r2) /\
 ∀ p,H p=none->Q (.ref p) (upd H p (.tup (g6 x)))
theorem Ft (h:fP K vs H Q E):p6 K (Ed Q) (start tY vs) H:=by
 obtain ⟨q1,q2,r1,r2,x,rfl,h1,h2,x1,x2,x3,k⟩:=h
 have hz:=sizeLine_eq
 have h1:SqT K H q1 [.int (if r1.pass then 1 else 0),.int (pv r1:Nat),.int (pm r1:Nat)]:=h1
 have h2:SqT K H q2 [.int (if r2.pass then 1 else 0),.int (pv r2:Nat),.int (pm r2:Nat)]:=h2
 have e2:Builtin.bitXor ((pv r1:Nat):Int) ((pv r2:Nat):Int)=((pv r1 ^^^ pv r2:Nat):Int):=by rw [Mf.wI (by omega) (by omega),aD,aD]
 have e3:Builtin.bitAnd ((pv r1:Nat):Int) ((pv r2:Nat):Int)=((pv r1 &&& pv r2:Nat):Int):=by rw [bitAnd_pp (by omega) (by omega),aD,aD]
 have e4:Builtin.bitXor ((pm r1:Nat):Int) ((pv r1 ^^^ pv r2:Nat):Int)=((pm r1 ^^^ (pv r1 ^^^ pv r2):Nat):Int):=by rw [Mf.wI (by omega) (by omega),aD,aD]
 unfold p6
 walk_at "x"
 rw [e2,e3,e4,<-x2,<-x3,<-x1]
 exact ⟨by show 3<=sizeLine;omega,k⟩
theorem Paired.GF {α β : Type} {R : α -> β -> Prop}:∀ {l:List α} {m:List β} {y : β},Paired R l (m++[y])->∃ l' x,l=l'++[x]/\Paired R l' m/\R x y
 |_,[],y,.cons r .nil=>⟨[],_,rfl,.nil,r⟩
 |_,z::m,y,.cons r t=>by
  obtain ⟨l',x,e,h1,h2⟩:=Paired.GF t
  exact ⟨_::l',x,by rw [e];rfl,.cons r h1,h2⟩
theorem NP {ts:List Addr} {t:Addr}:atI ((ts++[t]).map V.ref) (-1)=some (.ref t):=by
 have e:ixN ((ts++[t]).map V.ref).length (-1)=some ts.length:=by
  unfold ixN
  rw [ab,aG,cg]
  simp
  omega
 unfold atI
 rw [e,bt]
 simp
def fj:Sp:=fun vs H Q _=>∃ (a:Addr) (rows:List Vbcnan.Row) (H0:Hp),vs=[.ref a]/\LsF g6 H0 H a rows/\(∀ b,H b=none->H0 b=none)/\(∀ r,r∈rows->dP r)/\rows.length<=1024/\∀ H' p,bf H H'->H p=none->LsF g6 H0 H' p (du [] rows)->Q (.ref p) H'
theorem DW (h:fj vs H Q E):oM K (cV K) (fP K) (Ed Q) (start qX vs) H:=by
 obtain ⟨a,rows,H0,rfl,⟨rs,hrs,hR⟩,Tf,hok,hlen,k⟩:=h
 have hz:=sizeLine_eq
 unfold oM
 walk_at "x"
 refine ⟨aT _,fun p hp => ?_⟩
 have ha0:SqL K (upd H p (.lst [])) a (rs.map V.ref):=fe (SqL.of hrs) hp
 walk_at "x"
 refine dO (K:=K) (a:=a) (xs:=rs.map V.ref) (fun i σ H'=>∃ (st:List Vbcnan.Row) (ts:List Addr) (v2 v3:Option V),σ = [some (.ref a),some (.ref p),v2,v3]/\bf H H'/\H' p=some (.lst (ts.map V.ref))/\Paired (fun t x=>H0 t=none/\H' t=some (.tup (g6 x))) ts st.reverse/\st.length<=i/\(∀ r,r∈st->dP r)/\du [] rows=du st (rows.drop i))
  ⟨[],[],none,none,rfl,eY (bf.refl H) hp,aw,.nil,aT _,(fun r hr=>nomatch hr),rfl⟩ (fun i σ H' _ ⟨_,_,_,_,_,hS,_⟩=>SqL.of (hS _ _ hrs)) ?_ ?_
 ·rintro i x σ H1 hx ⟨st,ts,v2,v3,rfl,hS1,hp1,hP1,hsl,Rj,hst⟩
  obtain ⟨t,rfl,ht⟩:=cX hx
  obtain ⟨r,hr,hr0,htr⟩:=Paired.get hR ht
  have hil:=(ak.mp hr).1
  have FY:dP r:=hok r (aJ hr)
  have hdr:rows.drop i=r::rows.drop (i+1):=by
   rw [bq hil]
   congr 1
   exact (ak.mp hr).2
  rw [hdr] at hst
  have hst:du [] rows=du (push st r) (rows.drop (i+1)):=hst
  walk_at "x"
  obtain ⟨W,hW⟩:∃ W:Nat->L2.St->Hp->Prop,W=fun m σ H'=>∃ (s2:List Vbcnan.Row) (us:List Addr) (u:Addr) (x:Vbcnan.Row),m=s2.length /\ σ = [some (.ref a),some (.ref p),some (.ref t),some (.ref u)]/\bf H H'/\H' p=some (.lst (us.map V.ref))/\Paired (fun t x=>H0 t=none/\H' t=some (.tup (g6 x))) us s2.reverse/\H0 u=none/\H' u=some (.tup (g6 x)) /\
   dP x/\(∀ r,r∈s2->dP r)/\s2.length<=i/\push st r=push s2 x:=⟨_,rfl⟩
  refine uh (n:=st.length) W (by rw [hW];exact ⟨st,ts,t,r,rfl,rfl,hS1,hp1,hP1,hr0,hS1 _ _ htr,FY,Rj,hsl,rfl⟩) ?_
  intro m σ H' N hw' hN1 hN2
  rw [hW] at hw'
  obtain ⟨s2,us,u,x,hm,rfl,hS,hpl,hP,hu0,hu,Pp,PV,h2l,Ob⟩:=hw'
  have hul:us.length=s2.reverse.length:=hP.length
  rw [List.length_reverse] at hul
  have hps:SqL K H' p (us.map V.ref):=SqL.of hpl
  have fin:∀ st',push s2 x=x::st'->s2=st'->∃ (st:List Vbcnan.Row) (ts:List Addr) (v2 v3:Option V),[some (V.ref a),some (.ref p),some (.ref t),some (.ref u)]=[some (.ref a),some (.ref p),v2,v3]/\bf H (upd H' p (.lst (us.map V.ref++[.ref u])))/\upd H' p (.lst (us.map V.ref++[.ref u])) p=some (.lst (ts.map V.ref)) /\
   Paired (fun t x=>H0 t=none/\upd H' p (.lst (us.map V.ref++[.ref u])) t=some (.tup (g6 x))) ts st.reverse/\st.length<=i+1/\(∀ r,r∈st->dP r)/\du [] rows=du st (rows.drop (i+1)):=fun st' e1 e2=>by
   subst e2
   refine ⟨x::s2,us++[u],_,_,rfl,eY hS hp,by rw [aw,bt];rfl,?_,by rw [bM];omega,fun r hr => ?_,by rw [hst,Ob,e1]⟩
   ·rw [fq]
    refine Paired.snoc ⟨hu0,by rw [au (bR hu hpl (by intro z;cases z))];exact hu⟩ (Paired.imp (fun t x ⟨y,z⟩=>⟨y,?_⟩) hP)
    rw [au (bR z hpl (by intro z;cases z))]
    exact z
   ·rcases ae.mp hr with q|q
    ·rw [q];exact Pp
    ·exact PV r q
  cases s2 with
  |nil =>
   have eu:us=[]:=iy.mp hul
   subst eu
   walk_at "x"
   refine eT hpl (by show 0<sizeLine;omega) ?_
   exact fin [] rfl rfl
  |cons t0 s3 =>
   rw [fq] at hP
   obtain ⟨us',tl,rfl,hP',T7,htl⟩:=Paired.GF hP
   have hne:(!((us'++[tl]).map V.ref).isEmpty)=true:=by simp
   have Uk:s3.length+1<=i:=h2l
   have RG:dP t0:=PV t0 (ae.mpr (.inl rfl))
   have hat:=NP (ts:=us') (t:=tl)
   have SH:SqT K H' tl (g6 t0):=SqT.of htl
   have hus:SqT K H' u (g6 x):=SqT.of hu
   have e1:(-(1:Int))=-1:=rfl
   walk_at "x"
   refine ⟨tl,u,t0,x,rfl,SH,hus,?_⟩
   walk_at "x"
   cases hc:EA t0 x with
   |false =>
    have hj:=Jc RG Pp hc
    walk_at "x"
    refine eT hpl (by rw [ab];simp only [aG,bM,List.length_nil] at hul ⊢; omega) ?_
    refine fin (t0::s3) ?_ rfl
    unfold push
    rw [hj]
   |true =>
    obtain ⟨y,hj,Sz,y1,y2,y3⟩:=Gh RG Pp hc
    walk_at "x"
    refine ⟨N,hN2,?_⟩
    walk_at "x"
    refine ⟨.inl ⟨rfl,_,hps⟩,p,(us'++[tl]).map V.ref,.ref tl,rfl,rfl,hpl,by rw [bt];simp,?_⟩
    have edl:((us'++[tl]).map V.ref).dropLast=us'.map V.ref:=by rw [bt];simp
    rw [edl]
    have kp:∀ b xs,H' b=some (HO.tup xs)->upd H' p (.lst (us'.map V.ref)) b=some (.tup xs):=fun b xs e=>by rw [au (bR e hpl (by intro z;cases z))];exact e
    have hS2:bf H (upd H' p (.lst (us'.map V.ref))):=eY hS hp
    have hp2:upd H' p (.lst (us'.map V.ref)) p=some (.lst (us'.map V.ref)):=aw
    have dm:∀ b,upd H' p (.lst (us'.map V.ref)) b=none->H0 b=none:=fun b q=>Tf b (hS2.free q)
    walk_at "x"
    refine ⟨tl,u,t0,x,y,rfl,SqT.of (kp _ _ htl),SqT.of (kp _ _ hu),y1,y2,y3,fun v hv => ?_⟩
    walk_at "x"
    refine hN1 s3.length _ _ (by rw [hm];exact fL _) ?_
    rw [hW]
    refine ⟨s3,us',v,y,rfl,rfl,br hS2 hv,by rw [au (az hp2 hv)];exact hp2,Paired.imp (fun t x ⟨a1,a2⟩=>⟨a1,?_⟩) hP',dm v hv,aw,Sz,fun r hr=>PV r (ae.mpr (.inr hr)),by omega,?_⟩
    ·rw [Ob]
     show (match t0.join x with|some y=>push s3 y|none=>x::t0::s3)=_
     rw [hj]
    ·rw [au (az (kp _ _ a2) hv)]
     exact kp _ _ a2
 ·rintro σ H' ⟨st,ts,v2,v3,rfl,hS,hpl,hP,hsl,Rj,hst⟩
  have hrl:rs.length=rows.length:=hR.length
  rw [c7 (by rw [ab];omega)] at hst
  have hst:du [] rows=st.reverse:=hst
  walk_at "x"
  exact k H' p hS hp ⟨ts,hpl,by rw [hst];exact hP⟩
end
section
variable {K:Frag} {C:CC} {vs:List V} {H:Hp} {Q:VK} {E:XK}
open Vbcnan (State Group Part Rule Field block coverOf)
def mO:Sp:=fun vs H Q _=>∃ (a:Addr) (rows:List Vbcnan.Row) (H0:Hp),vs=[.ref a]/\LsF g6 H0 H a rows/\rows.length<=1024/\∀ H' p,bf H H'->H p=none->LsF g6 H0 H' p (Vbcnan.trim rows)->Q (.ref p) H'
theorem P0 {xs:List V} {j:Nat} (hj:j<=xs.length):rT xs none (some (j:Int))=xs.take j:=by
 unfold rT
 rw [HT.uD]
 have e2:min j xs.length=j:=by omega
 rw [e2]
 rfl
theorem MH (h:mO vs H Q E):Dj K (Ed Q) (start Ia vs) H:=by
 obtain ⟨a,rows,H0,rfl,⟨ts,hts,hP⟩,hlen,k⟩:=h
 have hz:=sizeLine_eq
 have htl:ts.length=rows.length:=hP.length
 have ha:SqL K H a (ts.map V.ref):=SqL.of hts
 unfold Dj
 walk_at "x"
 obtain ⟨W,hW⟩:∃ W:Nat->L2.St->Hp->Prop,W=fun m σ H'=>H'=H /\ σ = [some (.ref a),some (.int (m:Nat))]/\m<=rows.length/\Vbcnan.trim rows=Vbcnan.trim (rows.take m):=⟨_,rfl⟩
 refine uh (n:=rows.length) W (by rw [hW];exact ⟨rfl,by rw [ab,htl];rfl,ay _,by rw [a8 (ay _)]⟩) ?_
 intro m σ H' N hw' hN1 hN2
 rw [hW] at hw'
 obtain ⟨rfl,rfl,hm,Oa⟩:=hw'
 have fin:Vbcnan.trim (rows.take m)=rows.take m->∀ p,H' p=none->Q (.ref p) (upd H' p (.lst (rT (ts.map V.ref) none (some (m:Int))))):=fun e p hp=>by
  have sm:=br (o:=.lst (rT (ts.map V.ref) none (some (m:Int)))) (bf.refl H') hp
  refine k _ p sm hp ⟨ts.take m,?_,?_⟩
  ·rw [aw,P0 (by rw [ab];omega),xm]
  ·rw [Oa,e]
   exact Paired.take m (Paired.imp (fun t x ⟨y,z⟩=>⟨y,sm _ _ z⟩) hP)
 cases m with
 |zero =>
  walk_at "x"
  exact Cp ha fun p hp=>fin rfl p hp
 |succ m =>
  obtain ⟨t,ht⟩:∃ t,ts[m]? = some t:=⟨_,aC (by omega)⟩
  obtain ⟨r,hr,_,htr⟩:=Paired.get hP ht
  have hat:atI (ts.map V.ref) (((m+1:Nat):Int)-1)=some (.ref t):=by
   have e:((m+1:Nat):Int)-1=((m:Nat):Int):=by omega
   rw [e]
   exact vt (by rw [a9,ht];rfl)
  have hst:SqT K H' t [.int (if r.pass then 1 else 0),.int (pv r:Nat),.int (pm r:Nat)]:=SqT.of htr
  have etk:rows.take (m+1)=rows.take m++[r]:=by rw [cQ,hr];rfl
  have es:=Cv (rows.take m) r
  rw [<-etk] at es
  cases hp:r.pass with
  |true =>
   rw [hp] at hst es
   have hst:SqT K H' t [.int 1,.int (pv r:Nat),.int (pm r:Nat)]:=hst
   walk_at "x"
   exact Cp ha fun p hp=>fin es p hp
  |false =>
   rw [hp] at hst es
   have hst:SqT K H' t [.int 0,.int (pv r:Nat),.int (pm r:Nat)]:=hst
   walk_at "x"
   refine ⟨N,hN2,?_⟩
   walk_at "x"
   refine hN1 m _ _ (fL _) ?_
   rw [hW]
   refine ⟨rfl,?_,by omega,by rw [Oa,es];rfl⟩
   have e:((m+1:Nat):Int)-1=((m:Nat):Int):=by omega
   show [some (V.ref a),some (V.int (((m+1:Nat):Int)-1))]=_
   rw [e]
def placeOf {α : Type}:Option (Nat × α)->Int
 |some (i,_)=>(i:Int)
 |none=>-1
def fQ:Sp:=fun vs H Q _=>∃ (a:Addr) (rows:List Vbcnan.Row) (n:Nat),vs=[.ref a,.int n]/\LsR g6 H a rows/\∀ H',bf H H'->Q (.int (placeOf (Vbcnan.firstAt (fun r=>decide (n &&& pm r=pv r)) 0 rows))) H'
theorem Fv (h:fQ vs H Q E):p9 K (Ed Q) (start t7 vs) H:=by
 obtain ⟨a,rows,n,rfl,⟨ts,hts,hP⟩,k⟩:=h
 have htl:ts.length=rows.length:=hP.length
 have ha:SqL K H a (ts.map V.ref):=SqL.of hts
 unfold p9
 walk_at "x"
 refine Ks ?_
 walk_at "x"
 refine ⟨a,_,rfl,ha,?_⟩
 refine o7 (J:=Ite K a) (n:=ts.length) (fun i σ H'=>∃ v2 v3:Option V,σ = [some (.ref a),some (.int n),v2,v3]/\bf H H'/\∀ (j:Nat) r,j<i->rows[j]? = some r->decide (n &&& pm r=pv r)=false)
  ⟨none,none,rfl,bf.refl H,fun j r hj=>(by omega)⟩ (fun i σ H' hi ⟨_,_,_,hS,_⟩=>⟨ts.map V.ref,_,SqL.of (hS _ _ hts),aC (by rw [ab];exact hi)⟩) (fun σ H' ⟨_,_,_,hS,_⟩=>⟨ts.map V.ref,SqL.of (hS _ _ hts),by rw [ab];exact ay _⟩) ?_ ?_
 ·rintro i x σ H1 H' hi ⟨v2,v3,rfl,hS,hno⟩ ⟨T,y,rfl,hT,rfl,hy⟩
  have hx:=hy _ (SqL.of (hS _ _ hts))
  obtain ⟨t,rfl,ht⟩:=cX hx
  obtain ⟨r,hr,htr⟩:=Paired.get hP ht
  have sm:=br (o:=.tup [.int (i:Nat),.ref t]) hS hT
  have hTs:SqT K (upd H1 T (.tup [.int (i:Nat),.ref t])) T [.int (i:Nat),.ref t]:=SqT.of aw
  have Pq:SqT K (upd H1 T (.tup [.int (i:Nat),.ref t])) t [.int (if r.pass then 1 else 0),.int (pv r:Nat),.int (pm r:Nat)]:=SqT.of (sm _ _ htr)
  have e1:Builtin.bitAnd (n:Int) ((pm r:Nat):Int)=((n &&& pm r:Nat):Int):=by rw [bitAnd_pp (by omega) (by omega),aD,aD]
  have e2:decide (((n &&& pm r:Nat):Int)=((pv r:Nat):Int))=decide (n &&& pm r=pv r):=decide_eq_decide.mpr (by omega)
  walk_at "x"
  rw [e1,e2]
  cases hc:decide (n &&& pm r=pv r) with
  |true =>
   walk_at "x"
   have:=z7 (f:=fun r=>decide (n &&& pm r=pv r)) (n:=0) (i:=i) hno hr hc
   have q:=k _ sm
   rw [this,kO] at q
   exact q
  |false =>
   walk_at "x"
   refine ⟨_,_,rfl,sm,fun j r' hj hr' => ?_⟩
   rcases aZ j i with z|z
   ·exact hno j r' z hr'
   ·have:j=i:=by omega
    subst this
    rw [hr] at hr'
    cases hr'
    exact hc
 ·rintro σ H' ⟨v2,v3,rfl,hS,hno⟩
  have:=tQ (f:=fun r=>decide (n &&& pm r=pv r)) (l:=rows) (n:=0) fun j r hr=>hno j r (by have:=(ak.mp hr).1;omega) hr
  have q:=k H' hS
  rw [this] at q
  walk_at "x"
  exact q
end
section
variable {K:Frag} {C:CC} {vs:List V} {H:Hp} {Q:VK} {E:XK}
open Vbcnan (State Group Part Rule)
def cu (C:CC):Sp:=fun vs H Q _=>∃ (s:State) (A:SA),vs=[.ref A.sw]/\bG C H s A/\Q (.bl s.on) H
theorem rN (T:TxS K C) (h:cu C vs H Q E):ig K (Ed Q) (start i8 vs) H:=by
 obtain ⟨s,A,rfl,hA,k⟩:=h
 obtain ⟨tc,n1,n2,n3,n4,n5,TT⟩:=T
 have h1:=hA.ins
 have h2:=hA.Ep
 unfold ig
 walk_at "x"
 cases e:s.on with
 |true =>
  rw [e] at k
  have:=hA.on e
  have q:decide ((0:Int)<(s.most:Int))=true:=decide_eq_true (by omega)
  show Q (.bl (decide ((0:Int)<(s.most:Int)))) H
  rw [q]
  exact k
 |false =>
  rw [e] at k
  exact k
def b8 (C:CC):Sp:=fun vs H Q _=>∃ (s:State) (A:SA) (m:Nat),vs=[.ref A.sw,.int m]/\bG C H s A/\1<=m/\m<=1024/\∀ H' A',bG C H' {on:=true,most:=m} A'->Left H H' A A'->Q .non H'
theorem qt (T:TxS K C) (h:b8 C vs H Q E):gK K (Ed Q) (start ip vs) H:=by
 obtain ⟨s,A,m,rfl,hA,hm,hm2,k⟩:=h
 obtain ⟨tc,n1,n2,n3,n4,n5,TT⟩:=T
 obtain ⟨x,dx,dg0,lr0,dk0,kvs,rs,es,im,kt0⟩:=A
 have hx:H x=some (.ins C.sw dx _):=hA.ins
 have hdx:H dx=some (.own x):=hA.dx
 unfold gK
 have nxd:dx≠x:=bR hdx hx (by intro z;cases z)
 walk_at "x"
 refine dA hx tc n1 (show 5<1000 by decide) ?_
 rw [KY]
 generalize hf1:gO (V.int (m:Int)) (V.ref dg0) (V.ref lr0) (V.ref dk0) kt0=f1
 have hx1:upd H x (.ins C.sw dx f1) x=some (.ins C.sw dx f1):=aw
 have kp1:∀ b o,H b=some o->b≠x->upd H x (.ins C.sw dx f1) b=some o:=fun b o e hb=>by rw [au hb];exact e
 have dm1:∀ b,upd H x (.ins C.sw dx f1) b=none->H b=none:=fun b h=>cc h
 generalize upd H x (.ins C.sw dx f1)=H1 at hx1 kp1 dm1 ⊢
 walk_at "x"
 intro dg hdg
 have hx2:upd H1 dg (.dK []) x=some (.ins C.sw dx f1):=by rw [au (az hx1 hdg)];exact hx1
 walk_at "x"
 refine dA hx2 tc n2 (by subst hf1;exact (show 5<1000 by decide)) ?_
 generalize hf2:gu "groups" (V.ref dg) f1=f2
 have ndg:dg≠x:=fun q=>by rw [q,hx1] at hdg;cases hdg
 have hx3:upd (upd H1 dg (.dK [])) x (.ins C.sw dx f2) x=some (.ins C.sw dx f2):=aw
 have hg3:upd (upd H1 dg (.dK [])) x (.ins C.sw dx f2) dg=some (.dK []):=by rw [au ndg];exact aw
 have kp3:∀ b o,H b=some o->b≠x->upd (upd H1 dg (.dK [])) x (.ins C.sw dx f2) b=some o:=fun b o e hb=>by
  rw [au hb,au (az (kp1 b o e hb) hdg)]
  exact kp1 b o e hb
 have dm3:∀ b,upd (upd H1 dg (.dK [])) x (.ins C.sw dx f2) b=none->H b=none:=fun b h=>dm1 b (cc (cc h))
 generalize upd (upd H1 dg (.dK [])) x (.ins C.sw dx f2)=H3 at hx3 hg3 kp3 dm3 ⊢
 walk_at "x"
 refine ⟨aT _,fun lr hlr => ?_⟩
 have hx4:upd H3 lr (.lst []) x=some (.ins C.sw dx f2):=by rw [au (az hx3 hlr)];exact hx3
 walk_at "x"
 refine dA hx4 tc n3 (by subst hf2 hf1;exact (show 5<1000 by decide)) ?_
 generalize hf3:gu "rules" (V.ref lr) f2=f3
 have nlr:lr≠x:=fun q=>by rw [q,hx3] at hlr;cases hlr
 have nlg:dg≠lr:=az hg3 hlr
 have hx5:upd (upd H3 lr (.lst [])) x (.ins C.sw dx f3) x=some (.ins C.sw dx f3):=aw
 have hg5:upd (upd H3 lr (.lst [])) x (.ins C.sw dx f3) dg=some (.dK []):=by rw [au ndg,au nlg];exact hg3
 have hl5:upd (upd H3 lr (.lst [])) x (.ins C.sw dx f3) lr=some (.lst []):=by rw [au nlr];exact aw
 have kp5:∀ b o,H b=some o->b≠x->upd (upd H3 lr (.lst [])) x (.ins C.sw dx f3) b=some o:=fun b o e hb=>by
  rw [au hb,au (az (kp3 b o e hb) hlr)]
  exact kp3 b o e hb
 have dm5:∀ b,upd (upd H3 lr (.lst [])) x (.ins C.sw dx f3) b=none->H b=none:=fun b h=>dm3 b (cc (cc h))
 generalize upd (upd H3 lr (.lst [])) x (.ins C.sw dx f3)=H5 at hx5 hg5 hl5 kp5 dm5 ⊢
 walk_at "x"
 intro dk hdk
 have hx6:upd H5 dk (.dK []) x=some (.ins C.sw dx f3):=by rw [au (az hx5 hdk)];exact hx5
 walk_at "x"
 refine dA hx6 tc n4 (by subst hf3 hf2 hf1;exact (show 5<1000 by decide)) ?_
 generalize hf4:gu "known_edges" (V.ref dk) f3=f4
 have hx7:upd (upd H5 dk (.dK [])) x (.ins C.sw dx f4) x=some (.ins C.sw dx f4):=aw
 walk_at "x"
 refine dA hx7 tc n5 (by subst hf4 hf3 hf2 hf1;exact (show 5<1000 by decide)) ?_
 rw [gS]
 have ndk:dk≠x:=fun q=>by rw [q,hx5] at hdk;cases hdk
 have ngk:dg≠dk:=az hg5 hdk
 have nlk:lr≠dk:=az hl5 hdk
 have LI:=kp5 _ _ hdx nxd
 refine k _ ⟨x,dx,dg,lr,dk,[],[],[],[],.non⟩ ⟨?_,?_,?_,?_,?_,ngk,by simp,fun q=>hm,ff,fun g hg=>(by cases hg),fun k v hk=>(by cases hk),.nil,fun g hg=>(by cases hg),ff,fun k v hk=>(by cases hk),hm2,.inl rfl,⟨List.Pairwise.nil,fun g hg=>(by cases hg),fun g hg=>(by cases hg),fun g hg=>(by cases hg)⟩,⟨aT _,fun g hg=>(by cases hg),fun g hg=>(by cases hg),fun g hg=>(by cases hg),fun g hg=>(by cases hg)⟩,fun b hb=>(by cases hb)⟩ ⟨rfl,?_,?_,fun b h=>dm5 b (cc (cc h))⟩
 ·show upd _ x _ x=_
  rw [aw]
  subst hf4 hf3 hf2 hf1
  rfl
 ·show upd _ x _ dx=_
  rw [au nxd,au (az LI hdk)]
  exact LI
 ·show upd _ x _ dg=_
  rw [au ndg,au ngk]
  exact hg5
 ·show upd _ x _ lr=_
  rw [au nlr,au nlk]
  exact hl5
 ·show upd _ x _ dk=_
  rw [au ndk,aw]
 ·intro b hb
  have hb:b=dx\/b=x\/b=dg\/b=lr\/b=dk:=by simpa [SA.own,SA.mut] using hb
  have fr:∀ c,c≠x->(∀ o,H c=some o->False)->H c=none:=fun c _ hc=>by
   cases e:H c with
   |none=>rfl
   |some o=>exact (hc o e).elim
  rcases hb with rfl|rfl|rfl|rfl|rfl
  ·exact .inl (by simp [SA.own])
  ·exact .inl (by simp [SA.own,SA.mut])
  ·exact .inr (fr _ ndg fun o e=>by rw [kp1 _ _ e ndg] at hdg;cases hdg)
  ·exact .inr (fr _ nlr fun o e=>by rw [kp3 _ _ e nlr] at hlr;cases hlr)
  ·exact .inr (fr _ ndk fun o e=>by rw [kp5 _ _ e ndk] at hdk;cases hdk)
 ·intro b o e hb
  have hb:b≠x:=fun q=>hb (by rw [q];simp [SA.own,SA.mut])
  rw [au hb,au (az (kp5 b o e hb) hdk)]
  exact kp5 b o e hb
end
section
variable {K:Frag} {C:CC} {vs:List V} {H:Hp} {Q:VK} {E:XK}
open Vbcnan (State Group Part Rule)
theorem we {α : Type} [DecidableEq α]:∀ {l t:List α},l.Nodup->(∀ x,x∈l->x∈t)->l.length<=t.length
 | [],t,_,_=>aT _
 |x::l,t,h,hs=>by
  rw [ee] at h
  have hx:x∈t:=hs x (ae.mpr (.inl rfl))
  have:=we (l:=l) (t:=t.erase x) h.2 fun y hy=>by
   have hne:y≠x:=fun e=>h.1 (by rw [<-e];exact hy)
   exact (List.mem_erase_of_ne hne).mpr (hs y (ae.mpr (.inr hy)))
  rw [List.length_erase_of_mem hx] at this
  have:=List.length_pos_of_mem hx
  simp
  omega
theorem D6 {kvs:List (Key×V)} {k:Key} (h:k∈kvs.map (·.1)):∃ v,b0 kvs k=some v:=by
 cases e:b0 kvs k with
 |none=>exact (EY e h).elim
 |some v=>exact ⟨v,rfl⟩
theorem z8 {kvs:List (Key×V)} {gs:List Group} (hn:(kvs.map (·.1)).Nodup) (hk:∀ k v,b0 kvs k=some v->∃ g,g∈gs/\k=Sum.inl (g.id:Int)) (w:WfG gs):kvs.length<=16:=by
 have:=we (t:=gs.map fun g=>(Sum.inl (g.id:Int):Key)) hn fun k hm=>by
  obtain ⟨v,hv⟩:=D6 hm
  obtain ⟨g,hg,e⟩:=hk k v hv
  exact bx.mpr ⟨g,hg,e.symm⟩
 rw [ab,ab] at this
 exact bB this w.len
theorem FV {kvs:List (Key×V)} {k:Key} {y:V} (hn:(kvs.map (·.1)).Nodup):((putK kvs k y).map (·.1)).Nodup:=by
 cases e:b0 kvs k with
 |none=>exact IG y hn e
 |some v =>
  unfold putK
  rw [kH,e]
  show ((kvs.map fun kv=>if kv.1=k then (kv.1,y) else kv).map (·.1)).Nodup
  have:(kvs.map fun kv=>if kv.1=k then (kv.1,y) else kv).map (·.1)=kvs.map (·.1):=by
   rw [List.map_map]
   apply List.map_congr_left
   intro kv _
   show (if kv.1=k then (kv.1,y) else kv).1=kv.1
   split<;>rfl
  rw [this]
  exact hn
theorem uj {k j:Key}:∀ (kvs:List (Key×V)),b0 (kL kvs k) j=if j=k then none else b0 kvs j
 | []=>by
  show (none:Option V)=_
  split<;>rfl
 |p::r=>by
  by_cases e:p.1=k
  ·rw [C3 e,uj r]
   by_cases q:j=k
   ·rw [if_pos q,if_pos q]
   ·rw [if_neg q,if_neg q,d5 (fun z=>q (z.symm.trans e))]
  ·rw [C4 e]
   by_cases q:p.1=j
   ·rw [eV q,eV q,if_neg (fun z=>e (q.trans z))]
   ·rw [d5 q,d5 q,uj r]
theorem uT {a b:Nat} (h:(Sum.inl (a:Int):Key)=Sum.inl (b:Int)):a=b:=by
 have:=Sum.inl.inj h
 omega
def cp (C:CC):Sp:=fun vs H Q _=>∃ (s:State) (A:SA) (id:Nat) (a:Addr) (qs:List Addr) (ps:List Part),vs=[.ref A.sw,.int id,.ref a]/\bG C H s A/\id<=15/\ps.length<=16/\(∀ p,p∈ps->qU s.groups id p) /\
 H a=some (.lst (qs.map V.ref))/\Paired (fun q p=>H q=some (.tup (uP p))) qs ps/\a≠A.lr /\
 ∀ H' A',bG C H' {s with groups:=Vbcnan.putGroup ⟨id,ps⟩ s.groups} A'->A'.sw=A.sw->(∀ b,b∈A'.own->b∈A.own\/b=a\/b∈qs\/H b=none)->(∀ b o,H b=some o->b∉A.own->H' b=some o)->(∀ b,H' b=none->H b=none)->Q .non H'
theorem qA {α β : Type} {R : α -> β -> Prop} {l:List α} {m:List β} (h:Paired R l m) {x : α} (hx:x∈l):∃ y,R x y:=by
 obtain ⟨i,hi⟩:=cH.mp hx
 obtain ⟨b,_,hb⟩:=Paired.get h hi
 exact ⟨b,hb⟩
theorem rL (T:TxS K C) (h:cp C vs H Q E):ic K (Ed Q) (start i6 vs) H:=by
 obtain ⟨s,A,id,a,qs,ps,rfl,hA,hid,hpl,hok,ha,hq,hal,k⟩:=h
 obtain ⟨tc,n1,n2,n3,n4,n5,TT⟩:=T
 have hz:=sizeLine_eq
 have h1:=hA.ins
 have g1:=hA.df
 have S7:=z8 hA.nd hA.keys hA.wg
 unfold ic
 walk_at "x"
 refine Dh hA.dg (by omega) ?_
 generalize hk2:putK A.kvs (Sum.inl (id:Int)) (V.ref a)=nL
 have nsg:A.sw≠A.dg:=bR hA.ins hA.dg (by intro z;cases z)
 have h2:upd H A.dg (.dK nL) A.sw=some (.ins C.sw A.dx (A.fs s)):=by rw [au nsg];exact h1
 have hg2:upd H A.dg (.dK nL) A.dg=some (.dK nL):=aw
 have kp2:∀ b o,H b=some o->b≠A.dg->upd H A.dg (.dK nL) b=some o:=fun b o e hb=>by rw [au hb];exact e
 have dm2:∀ b,upd H A.dg (.dK nL) b=none->H b=none:=fun b h=>cc h
 generalize upd H A.dg (.dK nL)=H2 at h2 hg2 kp2 dm2 ⊢
 walk_at "x"
 intro dk hdk
 have h3:upd H2 dk (.dK []) A.sw=some (.ins C.sw A.dx (A.fs s)):=by rw [au (az h2 hdk)];exact h2
 walk_at "x"
 refine dA h3 tc n4 (show 5<1000 by decide) ?_
 rw [CA]
 have h4:upd (upd H2 dk (.dK [])) A.sw (.ins C.sw A.dx (gO (.int (if s.on then (s.most:Int) else 0)) (.ref A.dg) (.ref A.lr) (.ref dk) A.kt)) A.sw=some (.ins C.sw A.dx (gO (.int (if s.on then (s.most:Int) else 0)) (.ref A.dg) (.ref A.lr) (.ref dk) A.kt)):=aw
 walk_at "x"
 refine dA h4 tc n5 (show 5<1000 by decide) ?_
 rw [lT,gS]
 have ndk:dk≠A.sw:=fun q=>by rw [q,h2] at hdk;cases hdk
 have ngk:A.dg≠dk:=az hg2 hdk
 have kp:∀ b o,H b=some o->b≠A.dg->b≠A.sw->upd (upd H2 dk (.dK [])) A.sw (.ins C.sw A.dx (gO (.int (if s.on then (s.most:Int) else 0)) (.ref A.dg) (.ref A.lr) (.ref dk) .non)) b=some o:=fun b o e hb hs=>by
  rw [au hs,au (az (kp2 b o e hb) hdk)]
  exact kp2 b o e hb
 have frk:H dk=none:=by
  cases e:H dk with
  |none=>rfl
  |some o =>
   rw [kp2 dk o e ngk.symm] at hdk
   cases hdk
 have nlg:A.lr≠A.dg:=bR hA.lr hA.dg (by intro z;cases z)
 have nls:A.lr≠A.sw:=bR hA.lr hA.ins (by intro z;cases z)
 have nxg:A.dx≠A.dg:=bR hA.dx hA.dg (by intro z;cases z)
 have nxs:A.dx≠A.sw:=bR hA.dx hA.ins (by intro z;cases z)
 have nag:a≠A.dg:=bR ha hA.dg (by intro z;cases z)
 have nas:a≠A.sw:=bR ha hA.ins (by intro z;cases z)
 generalize hH:upd (upd H2 dk (.dK [])) A.sw (.ins C.sw A.dx (gO (.int (if s.on then (s.most:Int) else 0)) (.ref A.dg) (.ref A.lr) (.ref dk) .non))=H' at kp ⊢
 have hs':H' A.sw=some (.ins C.sw A.dx (gO (.int (if s.on then (s.most:Int) else 0)) (.ref A.dg) (.ref A.lr) (.ref dk) .non)):=by rw [<-hH,aw]
 have hg':H' A.dg=some (.dK nL):=by rw [<-hH,au nsg.symm,au ngk];exact hg2
 have hk':H' dk=some (.dK []):=by rw [<-hH,au ndk,aw]
 have hqn:∀ q,q∈qs->q≠A.dg/\q≠A.sw/\q≠A.lr:=fun q hm=>by
  obtain ⟨p,hp⟩:=qA hq hm
  exact ⟨bR hp hA.dg (by intro z;cases z),bR hp hA.ins (by intro z;cases z),bR hp hA.lr (by intro z;cases z)⟩
 have kim:∀ b o,b∈A.im->(∃ xs,o=HO.lst xs)\/(∃ xs,o=HO.tup xs)->H b=some o->H' b=some o:=fun b o _ ho e=>kp b o e (fun q=>by
  rw [q,hA.dg] at e
  have e:=ax e
  rcases ho with ⟨xs,z⟩|⟨xs,z⟩<;>rw [z] at e<;>cases e) (fun q=>by
  rw [q,hA.ins] at e
  have e:=ax e
  rcases ho with ⟨xs,z⟩|⟨xs,z⟩<;>rw [z] at e<;>cases e)
 have pin:∀ b ps,m8 A.im H b ps->m8 (a::qs++A.im) H' b ps:=fun b ps ⟨i0,qs',i1,i2⟩ =>
  ⟨by simp [i0],qs',kim _ _ i0 (.inl ⟨_,rfl⟩) i1,Paired.imp (fun q p ⟨x,y⟩=>⟨by simp [x],kim _ _ x (.inr ⟨_,rfl⟩) y⟩) i2⟩
 have dm:∀ b,H' b=none->H b=none:=fun b h=>by rw [<-hH] at h;exact dm2 b (cc (cc h))
 refine k H' ⟨A.sw,A.dx,A.dg,A.lr,dk,nL,A.rs,[],a::qs++A.im,.non⟩ ⟨hs',kp _ _ hA.dx nxg nxs,hg',kp _ _ hA.lr nlg nls,hk',ngk,?_,hA.on,?_,fun g hg => ?_,fun k v hv => ?_,?_,fun g hg v hv => ?_,ff,fun k v hv=>(by cases hv),hA.most,.inl rfl,hA.wg.put hid hpl hok,?_,fun b hb q => ?_⟩ rfl ?_ (fun b o e hb => ?_) dm
 ·show A.lr∉a::qs++A.im
  rw [List.cons_append,ae,aQ]
  rintro (q|q|q)
  ·exact hal q.symm
  ·exact (hqn _ q).2.2 rfl
  ·exact hA.li q
 ·subst hk2
  exact FV hA.nd
 ·show ∃ b,b0 nL _=_/\_
  subst hk2
  rw [kG]
  rcases (eA hA.wg.inc g).mp hg with q|⟨q,r⟩
  ·subst q
   rw [if_pos rfl]
   refine ⟨a,rfl,by simp,qs,kp _ _ ha nag nas,?_⟩
   have:∀ {l:List Addr} {m:List Part},(∀ x,x∈l->x∈qs)->Paired (fun q p=>H q=some (.tup (uP p))) l m->Paired (fun q p=>q∈a::qs++A.im/\H' q=some (.tup (uP p))) l m:=by
    intro l m hs hp
    induction hp with
    |nil=>exact .nil
    |cons r t ih =>
     rename_i q p l m
     have hm:=hs q (ae.mpr (.inl rfl))
     exact .cons ⟨by simp [hm],kp _ _ r (hqn q hm).1 (hqn q hm).2.1⟩ (ih fun x hx=>hs x (ae.mpr (.inr hx)))
   exact this (fun _ h=>h) hq
  ·rw [if_neg (fun e=>r (uT e))]
   obtain ⟨b,b1,b2⟩:=hA.grp g q
   exact ⟨b,b1,pin b _ b2⟩
 ·have hv:b0 nL k=some v:=hv
  subst hk2
  rw [kG] at hv
  by_cases e:k=Sum.inl (id:Int)
  ·exact ⟨⟨id,ps⟩,(eA hA.wg.inc _).mpr (.inl rfl),e⟩
  ·rw [if_neg e] at hv
   obtain ⟨g,hg,e2⟩:=hA.keys k v hv
   obtain ⟨y,y1,y2⟩:=uM (x:=⟨id,ps⟩) hA.wg.inc g hg
   exact ⟨y,y1,by rw [y2];exact e2⟩
 ·exact Paired.imp (fun q r ⟨x,y⟩=>⟨by simp [x],kim _ _ x (.inr ⟨_,rfl⟩) y⟩) hA.rul
 ·cases hv
 ·refine ⟨hA.wr.few,fun r hr g e => ?_,fun r hr g e => ?_,hA.wr.kind,hA.wr.port⟩
  ·obtain ⟨x,x1,x2⟩:=hA.wr.src r hr g e
   obtain ⟨y,y1,y2⟩:=uM (x:=⟨id,ps⟩) hA.wg.inc x x1
   exact ⟨y,y1,y2.trans x2⟩
  ·obtain ⟨x,x1,x2⟩:=hA.wr.dst r hr g e
   obtain ⟨y,y1,y2⟩:=uM (x:=⟨id,ps⟩) hA.wg.inc x x1
   exact ⟨y,y1,y2.trans x2⟩
 ·have hb:b=a\/b∈qs\/b∈A.im:=by simpa using hb
  have q:=dm b q
  rcases hb with z|z|z
  ·rw [z,ha] at q;cases q
  ·obtain ⟨_,e⟩:=qA hq z
   rw [e] at q;cases q
  ·exact hA.imd b z q
 ·intro b hb
  have hb:b=A.dx\/b=A.sw\/b=A.dg\/b=A.lr\/b=dk\/b=a\/b∈qs\/b∈A.im:=by simpa [SA.own,SA.mut,or_assoc] using hb
  rcases hb with rfl|rfl|rfl|rfl|rfl|rfl|q|q
  ·exact .inl (by simp [SA.own])
  ·exact .inl (by simp [SA.own,SA.mut])
  ·exact .inl (by simp [SA.own,SA.mut])
  ·exact .inl (by simp [SA.own,SA.mut])
  ·exact .inr (.inr (.inr frk))
  ·exact .inr (.inl rfl)
  ·exact .inr (.inr (.inl q))
  ·exact .inl (by simp [SA.own,q])
 ·exact kp b o e (fun q=>hb (by rw [q];simp [SA.own,SA.mut])) (fun q=>hb (by rw [q];simp [SA.own,SA.mut]))
end
section
variable {K:Frag} {C:CC} {vs:List V} {H:Hp} {Q:VK} {E:XK}
open Vbcnan (State Group Part Rule)
theorem bG.Rb {C:CC} {H H2:Hp} {s:State} {A:SA} (h:bG C H s A) (hS:bf H H2) {g:Group} (hg:g∈s.groups) {e:Addr} {es:List Int} (he:H e=none) (h2:H2 e=some (.lst (es.map V.int))) (hE:dY es)
 (wo:∀ x,x∈es->x∈(marks s.groups).map fun (n:Nat)=>(n:Int)) (nM:∀ z:Nat,z<Vbcnan.ALL->odd es z=Vbcnan.isIn s.groups g.id z) :
 bG C (upd H2 A.dk (.dK (putK A.es (Sum.inl (g.id:Int)) (.ref e)))) s {A with es:=putK A.es (Sum.inl (g.id:Int)) (.ref e),im:=e::A.im}/\Left H (upd H2 A.dk (.dK (putK A.es (Sum.inl (g.id:Int)) (.ref e)))) A {A with es:=putK A.es (Sum.inl (g.id:Int)) (.ref e),im:=e::A.im}:=by
 have kp:∀ b o,H b=some o->b≠A.dk->upd H2 A.dk (.dK (putK A.es (Sum.inl (g.id:Int)) (.ref e))) b=some o:=fun b o q hb=>by rw [au hb];exact hS b o q
 have nl:A.lr≠A.dk:=bR h.lr h.dk (by intro z;cases z)
 have ns:A.sw≠A.dk:=bR h.ins h.dk (by intro z;cases z)
 have nx:A.dx≠A.dk:=bR h.dx h.dk (by intro z;cases z)
 have ne:e≠A.dk:=fun q=>by rw [q,h.dk] at he;cases he
 have nel:e≠A.lr:=fun q=>by rw [q,h.lr] at he;cases he
 have kim:∀ b o,b∈A.im->Md C.tb o->H b=some o->upd H2 A.dk (.dK (putK A.es (Sum.inl (g.id:Int)) (.ref e))) b=some o:=fun b o _ ho q=>kp b o q (fun r=>by
  rw [r,h.dk] at q
  have q:=ax q
  rcases ho with ⟨xs,z⟩|⟨xs,z⟩|⟨dx,fs,z⟩<;>rw [z] at q<;>cases q)
 constructor
 ·exact {h with
   ins:=kp _ _ h.ins ns
   dx:=kp _ _ h.dx nx
   dg:=kp _ _ h.dg h.gk
   lr:=kp _ _ h.lr nl
   dk:=aw
   li:=fun q=>by
    rcases ae.mp q with z|z
    ·exact nel z.symm
    ·exact h.li z
   grp:=fun g' hg'=>by
    obtain ⟨a,a1,a0,qs,a2,a3⟩:=h.grp g' hg'
    exact ⟨a,a1,ae.mpr (.inr a0),qs,kim _ _ a0 (.inl ⟨_,rfl⟩) a2,Paired.imp (fun q p ⟨x,y⟩=>⟨ae.mpr (.inr x),kim _ _ x (.inr (.inl ⟨_,rfl⟩)) y⟩) a3⟩
   rul:=Paired.imp (fun q r ⟨x,y⟩=>⟨ae.mpr (.inr x),kim _ _ x (.inr (.inl ⟨_,rfl⟩)) y⟩) h.rul
   kno:=fun g' hg' v hv=>by
    have hv:b0 (putK A.es (Sum.inl (g.id:Int)) (.ref e)) (Sum.inl (g'.id:Int))=some v:=hv
    rw [kG] at hv
    by_cases q:(Sum.inl (g'.id:Int):Key)=Sum.inl (g.id:Int)
    ·rw [if_pos q] at hv
     cases hv
     rw [uT q]
     exact ⟨e,es,rfl,ae.mpr (.inl rfl),by rw [au ne];exact h2,hE,wo,nM⟩
    ·rw [if_neg q] at hv
     obtain ⟨b,bs,b1,b2,b3,b4⟩:=h.kno g' hg' v hv
     exact ⟨b,bs,b1,ae.mpr (.inr b2),kim _ _ b2 (.inl ⟨_,rfl⟩) b3,b4⟩
   tab:=h.tab.keep kim fun b hb=>ae.mpr (.inr hb)
   imd:=fun b hb q=>by
    have q:=cc q
    rcases ae.mp hb with z|z
    ·rw [z,h2] at q;cases q
    ·exact h.imd b z (hS.free q)
   ndk:=FV h.ndk
   Lw:=fun k v hv=>by
    have hv:b0 (putK A.es (Sum.inl (g.id:Int)) (.ref e)) k=some v:=hv
    rw [kG] at hv
    by_cases q:k=Sum.inl (g.id:Int)
    ·exact ⟨g,hg,q⟩
    ·rw [if_neg q] at hv
     exact h.Lw k v hv}
 ·refine ⟨rfl,fun b hb => ?_,fun b o q hb=>kp b o q fun r=>hb (by rw [r];simp [SA.own,SA.mut]),fun b q=>hS.free (cc q)⟩
  have hb:b=A.dx\/b=A.sw\/b=A.dg\/b=A.lr\/b=A.dk\/b=e\/b∈A.im:=by simpa [SA.own,SA.mut,or_assoc] using hb
  rcases hb with rfl|rfl|rfl|rfl|rfl|rfl|q
  ·exact .inl (by simp [SA.own])
  ·exact .inl (by simp [SA.own,SA.mut])
  ·exact .inl (by simp [SA.own,SA.mut])
  ·exact .inl (by simp [SA.own,SA.mut])
  ·exact .inl (by simp [SA.own,SA.mut])
  ·exact .inr he
  ·exact .inl (by simp [SA.own,q])
theorem Left.trans {H1 H2 H3:Hp} {A1 A2 A3:SA} (a:Left H1 H2 A1 A2) (b:Left H2 H3 A2 A3):Left H1 H3 A1 A3:=by
 refine ⟨b.sw.trans a.sw,fun c hc => ?_,fun c o e hc => ?_,fun c h=>a.dom c (b.dom c h)⟩
 ·rcases b.grow c hc with q|q
  ·exact a.grow c q
  ·by_cases r:c∈A1.own
   ·exact .inl r
   ·right
    cases e:H1 c with
    |none=>rfl
    |some o =>
     rw [a.keep c o e r] at q
     cases q
 ·refine b.keep c o (a.keep c o e hc) fun q => ?_
  rcases a.grow c q with r|r
  ·exact hc r
  ·rw [e] at r
   cases r
theorem keys_perm {kvs:List (Key×V)} {gs:List Group} (hn:(kvs.map (·.1)).Nodup) (hg:∀ g,g∈gs->∃ v,b0 kvs (Sum.inl (g.id:Int))=some v) (hk:∀ k v,b0 kvs k=some v->∃ g,g∈gs/\k=Sum.inl (g.id:Int)) (w:WfG gs) :
 ∃ ns:List Int,kvs.map (·.1)=ns.map Sum.inl/\ns.length<64/\∀ ns':List Int,ns'.Perm ns->ns'.Pairwise (· <= ·)->ns'=gs.map fun g=>(g.id:Int):=by
 have qD:∀ k,k∈kvs.map (·.1)->∃ n:Int,k=Sum.inl n:=fun k hm=>by
  obtain ⟨v,hv⟩:=D6 hm
  obtain ⟨g,_,e⟩:=hk k v hv
  exact ⟨_,e⟩
 have ex:∀ l:List Key,(∀ k,k∈l->∃ n:Int,k=Sum.inl n)->∃ ns:List Int,l=ns.map Sum.inl:=by
  intro l
  induction l with
  |nil=>intro _;exact ⟨[],rfl⟩
  |cons k l ih =>
   intro h
   obtain ⟨n,e⟩:=h k (ae.mpr (.inl rfl))
   obtain ⟨ns,e2⟩:=ih fun q hq=>h q (ae.mpr (.inr hq))
   exact ⟨n::ns,by rw [e,e2];rfl⟩
 obtain ⟨ns,ens⟩:=ex _ qD
 have hlen:=z8 hn hk w
 have hl:ns.length=kvs.length:=by
  have:=congrArg List.length ens
  rw [ab,ab] at this
  exact this.symm
 have hnd:ns.Nodup:=by
  rw [ens] at hn
  exact List.Pairwise.of_map (S:=(· ≠ ·)) Sum.inl (fun a b h e=>h (by rw [e])) hn
 have mM:(gs.map fun g=>(g.id:Int)).Pairwise (· < ·):=by
  have:=w.inc
  rw [List.pairwise_map] at this ⊢
  exact this.imp fun h=>by omega
 have SV:(gs.map fun g=>(g.id:Int)).Nodup:=mM.imp fun h=>by omega
 refine ⟨ns,ens,by omega,fun ns' p hs=>xq hs mM (p.trans ?_)⟩
 refine (List.perm_ext_iff_of_nodup hnd SV).mpr fun n => ?_
 have m1:n∈ns↔(Sum.inl n:Key)∈kvs.map (·.1):=by
  rw [ens,bx]
  constructor
  ·intro h
   exact ⟨n,h,rfl⟩
  ·rintro ⟨m,h,e⟩
   cases e
   exact h
 rw [m1]
 have m2:n∈(gs.map fun g=>(g.id:Int))↔∃ g,g∈gs/\(g.id:Int)=n:=bx
 rw [m2]
 constructor
 ·intro h
  obtain ⟨v,hv⟩:=D6 h
  obtain ⟨g,hg,e⟩:=hk _ v hv
  exact ⟨g,hg,(Sum.inl.inj e).symm⟩
 ·rintro ⟨g,hg',e⟩
  obtain ⟨v,hv⟩:=hg g hg'
  rw [<-e]
  exact Mx hv
theorem bG.xA {C:CC} {H:Hp} {s:State} {A:SA} (h:bG C H s A):∃ ns:List Int,A.kvs.map (·.1)=ns.map Sum.inl/\ns.length<64/\∀ ns':List Int,ns'.Perm ns->ns'.Pairwise (· <= ·)->ns'=s.groups.map fun g=>(g.id:Int) :=
 keys_perm h.nd (fun g hg=>let ⟨a,h1,_⟩:=h.grp g hg;⟨_,h1⟩) h.keys h.wg
end
section
variable {K:Frag} {C:CC} {vs:List V} {H:Hp} {Q:VK} {E:XK}
open Vbcnan (State Group Part Rule Field block coverOf)
structure Trie (H0:Hp) (root:Addr) (H:Hp) (D:List Int->Option Addr) (n:Nat) (ks:List (List Int)):Prop where
 root:D []=some root
 inj:∀ p q a,D p=some a->D q=some a->p=q
 fresh:∀ p a,D p=some a->H0 a=none
 dic:∀ p a,D p=some a->∃ kvs,H a=some (.dK kvs)/\(kvs.map (·.1)).Nodup/\kvs.length<=n/\(∀ k v,b0 kvs k=some v->∃ i b,k=Sum.inl i/\v=.ref b/\D (p++[i])=some b)/\∀ i b,D (p++[i])=some b->b0 kvs (Sum.inl i)=some (.ref b)
 dom:∀ p,(∃ a,D p=some a)↔p=[]\/∃ q,q∈ks/\p <+: q
theorem Trie.same {H0 H H':Hp} {root:Addr} {D:List Int->Option Addr} {n:Nat} {ks:List (List Int)} (h:Trie H0 root H D n ks) (s:∀ b kvs,H b=some (.dK kvs)->H' b=some (.dK kvs)):Trie H0 root H' D n ks :=
 {h with dic:=fun p a e=>let ⟨kvs,h1,h2⟩:=h.dic p a e;⟨kvs,s _ _ h1,h2⟩}
theorem Trie.ks {H0 H:Hp} {root:Addr} {D:List Int->Option Addr} {n n':Nat} {ks ks':List (List Int)} (h:Trie H0 root H D n ks) (hn:n<=n') (e:∀ p,(p=[]\/∃ q,q∈ks/\p <+: q)↔(p=[]\/∃ q,q∈ks'/\p <+: q)):Trie H0 root H D n' ks' :=
 {h with
  dic:=fun p a q=>let ⟨kvs,h1,h2,h3,h4⟩:=h.dic p a q;⟨kvs,h1,h2,bB h3 hn,h4⟩
  dom:=fun p=>(h.dom p).trans (e p)}
theorem Trie.new {H0 H:Hp} {root:Addr} (s:bf H0 H) (hr:H0 root=none) (h:H root=some (.dK [])):Trie H0 root H (fun p=>if p=[] then some root else none) 0 []:=by
 refine ⟨rfl,fun p q a h1 h2 => ?_,fun p a h1 => ?_,fun p a h1 => ?_,fun p => ?_⟩
 ·by_cases e1:p=[]
  ·by_cases e2:q=[]
   ·rw [e1,e2]
   ·simp [e2] at h2
  ·simp [e1] at h1
 ·by_cases e1:p=[]
  ·simp only [e1,if_true] at h1
   cases h1
   exact hr
  ·simp [e1] at h1
 ·by_cases e1:p=[]
  ·simp only [e1,if_true] at h1
   cases h1
   refine ⟨[],h,ff,ay _,fun k v hv=>(by cases hv),fun i b hb => ?_⟩
   simp [e1] at hb
  ·simp [e1] at h1
 ·constructor
  ·rintro ⟨a,h1⟩
   by_cases e1:p=[]
   ·exact .inl e1
   ·simp [e1] at h1
  ·rintro (e|⟨q,hq,_⟩)
   ·exact ⟨root,by simp [e]⟩
   ·cases hq
theorem KI {p q:List Int} {i:Int}:p <+: q++[i]↔p <+: q\/p=q++[i]:=by
 constructor
 ·intro h
  obtain ⟨t,ht⟩:=h
  rcases List.eq_nil_or_concat t with e|⟨t',x,e⟩
  ·rw [e,cS] at ht
   exact .inr ht
  ·rw [e,List.concat_eq_append,<-di] at ht
   have:=(kR ht rfl).1
   exact .inl ⟨t',this⟩
 ·rintro (h|h)
  ·exact List.IsPrefix.trans h (jd _ _)
  ·rw [h]
   exact List.prefix_rfl
theorem Trie.step {H0 H:Hp} {root:Addr} {D:List Int->Option Addr} {n:Nat} {ks:List (List Int)} {p:List Int} {i:Int} {a e:Addr} {kvs:List (Key×V)} (h:Trie H0 root H D n (ks++[p])) (s:bf H0 H) (ha:D p=some a) (hk:H a=some (.dK kvs)) (he:H e=none) :
 (∀ v,b0 kvs (Sum.inl i)=some v->∃ b,v=.ref b/\D (p++[i])=some b/\Trie H0 root (upd H e (.dK [])) D (n+1) (ks++[p++[i]])) /\
 (b0 kvs (Sum.inl i)=none->∃ D',D' (p++[i])=some e/\Trie H0 root (upd (upd H e (.dK [])) a (.dK (putK kvs (Sum.inl i) (.ref e)))) D' (n+1) (ks++[p++[i]])):=by
 obtain ⟨Nh,hk',nd,hl,h1,h2⟩:=h.dic p a ha
 have ek:Nh=kvs:=by
  rw [hk] at hk'
  cases hk'
  rfl
 subst ek
 have hne:a≠e:=az hk he
 constructor
 ·intro v hv
  obtain ⟨j,b,e1,e2,e3⟩:=h1 _ v hv
  cases e1
  refine ⟨b,e2,e3,(h.same fun c kvs q=>by rw [au (az q he)];exact q).ks (Nat.le_succ _) fun q => ?_⟩
  have hd:=(h.dom (p++[i])).mp ⟨b,e3⟩
  constructor
  ·rintro (q1|⟨r,hr,hq⟩)
   ·exact .inl q1
   ·right
    rcases aQ.mp hr with z|z
    ·exact ⟨r,aQ.mpr (.inl z),hq⟩
    ·rw [aO.mp z] at hq
     exact ⟨p++[i],aQ.mpr (.inr (aO.mpr rfl)),List.IsPrefix.trans hq (jd _ _)⟩
  ·rintro (q1|⟨r,hr,hq⟩)
   ·exact .inl q1
   ·rcases aQ.mp hr with z|z
    ·exact .inr ⟨r,aQ.mpr (.inl z),hq⟩
    ·rw [aO.mp z] at hq
     rcases hd with hd|⟨r',hr',hq'⟩
     ·simp at hd
     ·exact .inr ⟨r',hr',List.IsPrefix.trans hq hq'⟩
 ·intro hv
  have hno:D (p++[i])=none:=by
   cases q:D (p++[i]) with
   |none=>rfl
   |some b=>rw [h2 i b q] at hv;cases hv
  have hen:∀ q b,D q=some b->b≠e:=fun q b hq z=>by
   obtain ⟨_,hb,_⟩:=h.dic q b hq
   rw [z,he] at hb
   cases hb
  have PK:∀ j,D (p++[i]++[j])=none:=fun j=>by
   cases q:D (p++[i]++[j]) with
   |none=>rfl
   |some b =>
    obtain ⟨c,hc⟩:=(h.dom (p++[i])).mpr (by
     rcases (h.dom _).mp ⟨b,q⟩ with z|⟨r,hr,hq⟩
     ·simp at z
     ·exact .inr ⟨r,hr,List.IsPrefix.trans (jd _ _) hq⟩)
    rw [hno] at hc
    cases hc
  refine ⟨fun q=>if q=p++[i] then some e else D q,by simp,?_,fun q r b h3 h4 => ?_,fun q b h3 => ?_,fun q b h3 => ?_,fun q => ?_⟩
  ·show (if []=p++[i] then some e else D [])=some root
   rw [if_neg (by simp)]
   exact h.root
  ·have h3:(if q=p++[i] then some e else D q)=some b:=h3
   have h4:(if r=p++[i] then some e else D r)=some b:=h4
   by_cases c1:q=p++[i]
   ·by_cases c2:r=p++[i]
    ·rw [c1,c2]
    ·rw [if_pos c1] at h3
     rw [if_neg c2] at h4
     cases h3
     exact (hen _ _ h4 rfl).elim
   ·rw [if_neg c1] at h3
    by_cases c2:r=p++[i]
    ·rw [if_pos c2] at h4
     cases h4
     exact (hen _ _ h3 rfl).elim
    ·rw [if_neg c2] at h4
     exact h.inj _ _ _ h3 h4
  ·have h3:(if q=p++[i] then some e else D q)=some b:=h3
   by_cases c1:q=p++[i]
   ·rw [if_pos c1] at h3
    cases h3
    exact s.free he
   ·rw [if_neg c1] at h3
    exact h.fresh _ _ h3
  ·have h3:(if q=p++[i] then some e else D q)=some b:=h3
   by_cases c1:q=p++[i]
   ·rw [if_pos c1] at h3
    cases h3
    refine ⟨[],by rw [au hne.symm,aw],ff,aT _,fun k v hv=>(by cases hv),fun j b hb => ?_⟩
    have hb:(if q++[j]=p++[i] then some e else D (q++[j]))=some b:=hb
    have c2:q++[j]≠p++[i]:=fun z=>by
     rw [c1] at z
     have:=congrArg List.length z
     simp at this
    rw [if_neg c2,c1,PK j] at hb
    cases hb
   ·rw [if_neg c1] at h3
    by_cases c3:b=a
    ·have eq:q=p:=h.inj _ _ _ h3 (by rw [c3];exact ha)
     subst eq
     subst c3
     refine ⟨putK Nh (Sum.inl i) (.ref e),aw,IG _ nd hv,by have:=mX Nh (Sum.inl i:Key) (.ref e);omega,fun k v hk2 => ?_,fun j c hc => ?_⟩
     ·rw [kG] at hk2
      by_cases c4:k=Sum.inl i
      ·rw [if_pos c4] at hk2
       cases hk2
       exact ⟨i,e,c4,rfl,by show (if q++[i]=q++[i] then some e else _)=_;rw [if_pos rfl]⟩
      ·rw [if_neg c4] at hk2
       obtain ⟨j,c,e1,e2,e3⟩:=h1 k v hk2
       refine ⟨j,c,e1,e2,?_⟩
       show (if q++[j]=q++[i] then some e else D (q++[j]))=some c
       rw [if_neg (fun z=>c4 (by rw [e1];have:=(kR z rfl).2;simp at this;rw [this]))]
       exact e3
     ·have hc:(if q++[j]=q++[i] then some e else D (q++[j]))=some c:=hc
      rw [kG]
      by_cases c4:j=i
      ·rw [c4,if_pos rfl] at hc
       cases hc
       rw [c4,if_pos rfl]
      ·rw [if_neg (fun z=>c4 (by have:=(kR z rfl).2;simpa using this))] at hc
       rw [if_neg (fun z=>c4 (Sum.inl.inj z))]
       exact h2 j c hc
    ·obtain ⟨kv,k1,k2,k3,k4,k5⟩:=h.dic q b h3
     refine ⟨kv,by rw [au c3,au (az k1 he)];exact k1,k2,Nat.le_succ_of_le k3,fun k v hk2 => ?_,fun j c hc => ?_⟩
     ·obtain ⟨j,c,e1,e2,e3⟩:=k4 k v hk2
      refine ⟨j,c,e1,e2,?_⟩
      show (if q++[j]=p++[i] then some e else D (q++[j]))=some c
      rw [if_neg (fun z=>by rw [z,hno] at e3;cases e3)]
      exact e3
     ·have hc:(if q++[j]=p++[i] then some e else D (q++[j]))=some c:=hc
      by_cases c4:q++[j]=p++[i]
      ·have:q=p:=(kR c4 rfl).1
       rw [this,ha] at h3
       exact (c3 (ax h3).symm).elim
      ·rw [if_neg c4] at hc
       exact k5 j c hc
  ·constructor
   ·rintro ⟨b,h3⟩
    have h3:(if q=p++[i] then some e else D q)=some b:=h3
    by_cases c1:q=p++[i]
    ·exact .inr ⟨p++[i],aQ.mpr (.inr (aO.mpr rfl)),by rw [c1];exact List.prefix_rfl⟩
    ·rw [if_neg c1] at h3
     rcases (h.dom q).mp ⟨b,h3⟩ with z|⟨r,hr,hq⟩
     ·exact .inl z
     ·rcases aQ.mp hr with z|z
      ·exact .inr ⟨r,aQ.mpr (.inl z),hq⟩
      ·rw [aO.mp z] at hq
       exact .inr ⟨p++[i],aQ.mpr (.inr (aO.mpr rfl)),List.IsPrefix.trans hq (jd _ _)⟩
   ·intro hq
    show ∃ b,(if q=p++[i] then some e else D q)=some b
    by_cases c1:q=p++[i]
    ·exact ⟨e,if_pos c1⟩
    ·rw [if_neg c1]
     refine (h.dom q).mpr ?_
     rcases hq with z|⟨r,hr,hq⟩
     ·exact .inl z
     ·rcases aQ.mp hr with z|z
      ·exact .inr ⟨r,aQ.mpr (.inl z),hq⟩
      ·rw [aO.mp z] at hq
       rcases KI.mp hq with y|y
       ·exact .inr ⟨p,aQ.mpr (.inr (aO.mpr rfl)),y⟩
       ·exact (c1 y).elim
end
section
variable {K:Frag} {C:CC} {vs:List V} {H:Hp} {Q:VK} {E:XK}
open Vbcnan (State Group Part Rule)
def yt (o:HO):Prop:=∀ kvs,o≠HO.dK kvs
structure gE (H H':Hp) (A A':SA):Prop where
 lr:A'.lr=A.lr
 kt:A'.kt=A.kt
 keep:∀ b o,H b=some o->yt o->H' b=some o
theorem gE.trans {H1 H2 H3:Hp} {A1 A2 A3:SA} (a:gE H1 H2 A1 A2) (b:gE H2 H3 A2 A3):gE H1 H3 A1 A3:=⟨b.lr.trans a.lr,b.kt.trans a.kt,fun c o e h=>b.keep c o (a.keep c o e h) h⟩
theorem gE.same {H H':Hp} {A:SA} (s:bf H H'):gE H H' A A:=⟨rfl,rfl,fun b o e _=>s b o e⟩
def aA (C:CC):Sp:=fun vs H Q _=>∃ (s:State) (A:SA) (g:Group),vs=[.ref A.sw,.int g.id]/\bG C H s A/\g∈s.groups /\
 ∀ H' A' e es,bG C H' s A'->Left H H' A A'->H' e=some (.lst (es.map V.int))->dY es->es.length<=512->(∀ z:Nat,z<Vbcnan.ALL->odd es z=Vbcnan.isIn s.groups g.id z)->gE H H' A A'->Q (.ref e) H'
theorem FR {gs:List Group} {g:Group} (hg:g∈gs) {p:Part} (hp:p∈g.parts) {lo hi:Nat} (h:p=.add lo hi\/p=.sub lo hi):lo∈marks gs/\hi+1∈marks gs:=by
 have:∀ x,x ∈ [lo,hi+1]->x∈marks gs:=fun x hx=>by
  unfold marks
  refine kQ.mpr ⟨g,hg,kQ.mpr ⟨p,hp,?_⟩⟩
  rcases h with rfl|rfl<;>exact hx
 exact ⟨this lo (by simp),this (hi+1) (by simp)⟩
theorem rl {gs:List Group} {n:Nat} (h:n∈marks gs):(n:Int)∈(marks gs).map fun (n:Nat)=>(n:Int):=bx.mpr ⟨n,h,rfl⟩
theorem ro {gs:List Group} (h:(gs.map (·.id)).Pairwise (· < ·)) {i:Nat} {g x:Group} (hi:gs[i]? = some g) (hx:x∈gs) (hlt:x.id<g.id):∃ j,j<i/\gs[j]? = some x:=by
 obtain ⟨j,hj⟩:=cH.mp hx
 refine ⟨j,?_,hj⟩
 rcases vE j i with z|z|z
 ·exact z
 ·rw [z,hi] at hj
  cases hj
  omega
 ·obtain ⟨_,h2⟩:=zU h hi
  have hm:x∈gs.drop (i+1):=by
   have:(gs.drop (i+1))[j-(i+1)]? = some x:=by
    rw [List.getElem?_drop]
    have:i+1+(j-(i+1))=j:=by omega
    rw [this]
    exact hj
   exact aJ this
  have:=h2 x.id (bx.mpr ⟨x,hm,rfl⟩)
  omega
theorem u9 {gs:List Group} (h:(gs.map (·.id)).Pairwise (· < ·)) {i:Nat} {g:Group} (hi:gs[i]? = some g) {k:Nat} (hk:k<g.id):∀ x,x∈(gs.drop i).map (·.id)->x≠k:=by
 intro x hx
 obtain ⟨hlt,e⟩:=ak.mp hi
 rw [bq hlt,e,aW,ae] at hx
 rcases hx with z|z
 ·omega
 ·have:=(zU h hi).2 x z
  omega
theorem tj (T:TxS K C) (h:aA C vs H Q E):iU K cI (Ed Q) (start jG vs) H:=by
 obtain ⟨s,A,g0,rfl,hA,hg0,k⟩:=h
 obtain ⟨tc,n1,n2,n3,n4,n5,TT⟩:=T
 have hz:=sizeLine_eq
 have h1:=hA.ins
 have q1:=hA.df
 have mM:=hA.wg.inc
 have hTl:((marks s.groups).map fun (n:Nat)=>(n:Int)).length<=512:=by rw [ab];exact hA.wg.marks
 unfold iU
 walk_at "x"
 obtain ⟨ns,hns,h64,Pt⟩:=hA.xA
 refine ⟨A.dg,A.kvs,ns,rfl,hA.dg,hns,h64,fun ns' p LF hpw hp => ?_⟩
 have:=Pt ns' LF hpw
 subst this
 have hpl:upd H p (.lst ((s.groups.map fun g=>(g.id:Int)).map V.int)) p=some (.lst ((s.groups.map fun g=>(g.id:Int)).map V.int)):=aw
 have hps:SqL K (upd H p (.lst ((s.groups.map fun g=>(g.id:Int)).map V.int))) p ((s.groups.map fun g=>(g.id:Int)).map V.int):=SqL.of hpl
 have sm0:bf H (upd H p (.lst ((s.groups.map fun g=>(g.id:Int)).map V.int))):=br (bf.refl H) hp
 have npo:p∉A.own\/True:=.inr trivial
 walk_at "x"
 refine dO (K:=K) (a:=p) (xs:=(s.groups.map fun g=>(g.id:Int)).map V.int) (fun i σ H'=>∃ (A':SA) (v2:Option V),σ = [some (.ref A.sw),some (.int g0.id),v2]/\bG C H' s A'/\Left H H' A A'/\gE H H' A A'/\H' p=some (.lst ((s.groups.map fun g=>(g.id:Int)).map V.int)) /\
  ∀ j g,j<i->s.groups[j]? = some g->g.id<=g0.id->∃ v,b0 A'.es (Sum.inl (g.id:Int))=some v)
  ⟨A,none,rfl,hA.same (fun b o _ e=>sm0 b o e),Left.of_same A sm0,gE.same sm0,hpl,fun j g hj=>(by omega)⟩ (fun i σ H' _ ⟨_,_,_,_,_,_,e,_⟩=>SqL.of e) ?_ ?_
 ·rintro i x σ H' hx ⟨A',v2,rfl,hA',hL,hKe,hp',hkn⟩
  rw [a9,a9] at hx
  cases hgi:s.groups[i]? with
  |none =>
   rw [hgi] at hx
   cases hx
  |some g =>
   rw [hgi] at hx
   have ex:x=.int (g.id:Int):=(ax hx).symm
   subst ex
   have hgm:g∈s.groups:=aJ hgi
   have hsw:=hL.sw
   have h1':=hA'.ins
   rw [hsw] at h1'
   have qg:=hA'.df
   have qk:=hA'.zZ
   have PJ:=hA'.dk
   have Tg:=hA'.dg
   have oR:∀ (hh:∀ _v:V,g.id<=g0.id->b0 A'.es (Sum.inl (g.id:Int))≠none),∃ (A'':SA) (v2:Option V),[some (.ref A.sw),some (.int g0.id),some (V.int (g.id:Int))]=[some (.ref A.sw),some (.int g0.id),v2]/\bG C H' s A''/\Left H H' A A''/\gE H H' A A''/\H' p=some (.lst ((s.groups.map fun g=>(g.id:Int)).map V.int)) /\
    ∀ j g,j<i+1->s.groups[j]? = some g->g.id<=g0.id->∃ v,b0 A''.es (Sum.inl (g.id:Int))=some v:=fun hh=>by
    refine ⟨A',_,rfl,hA',hL,hKe,hp',fun j gj hj hgj hle => ?_⟩
    rcases aZ j i with z|z
    ·exact hkn j gj z hgj hle
    ·have:j=i:=by omega
     subst this
     rw [hgi] at hgj
     cases hgj
     cases e:b0 A'.es (Sum.inl (g.id:Int)) with
     |none=>exact (hh V.non hle e).elim
     |some v=>exact ⟨v,rfl⟩
   by_cases hle:g.id<=g0.id
   ·cases hv:b0 A'.es (Sum.inl (g.id:Int)) with
    |some v =>
     walk_at "x"
     rw [hv]
     walk_at "x"
     exact oR fun _ _=>by rw [hv];exact fun q=>nomatch q
    |none =>
     walk_at "x"
     rw [hv]
     obtain ⟨a,a1,a0,qs,a2,a3⟩:=hA'.grp g hgm
     walk_at "x"
     refine ⟨a,A'.dk,g.parts,A'.es,(marks s.groups).map fun (n:Nat)=>(n:Int),fun z=>Vbcnan.inAll (s.groups.take i) z,rfl,⟨qs,a2,Paired.imp (fun q p x=>x.2) a3⟩,hA'.dk,fun pt hpt => ?_,by omega,fun H2 e es hS2 he h2 hE wo nM => ?_⟩
     ·have o:=hA'.wg.ok g hgm pt hpt
      cases pt with
      |add lo hi =>
       obtain ⟨m1,m2⟩:=FR hgm hpt (lo:=lo) (hi:=hi) (.inl rfl)
       exact ⟨o.1,o.2,rl m1,rl m2⟩
      |sub lo hi =>
       obtain ⟨m1,m2⟩:=FR hgm hpt (lo:=lo) (hi:=hi) (.inr rfl)
       exact ⟨o.1,o.2,rl m1,rl m2⟩
      |with_ k =>
       obtain ⟨o1,x,o2,o3⟩:=o
       obtain ⟨j,j1,j2⟩:=ro mM hgi o2 (by omega)
       obtain ⟨v,hv'⟩:=hkn j x j1 j2 (by omega)
       obtain ⟨b,bs,b1,b2,b3,b4,b5,b6⟩:=hA'.kno x o2 v hv'
       subst b1
       rw [o3] at hv' b6
       exact ⟨b,bs,hv',b3,b4,b5,fun z hz'=>by rw [b6 z hz',rp mM (u9 mM hgi o1)]⟩
      |but k =>
       obtain ⟨o1,x,o2,o3⟩:=o
       obtain ⟨j,j1,j2⟩:=ro mM hgi o2 (by omega)
       obtain ⟨v,hv'⟩:=hkn j x j1 j2 (by omega)
       obtain ⟨b,bs,b1,b2,b3,b4,b5,b6⟩:=hA'.kno x o2 v hv'
       subst b1
       rw [o3] at hv' b6
       exact ⟨b,bs,hv',b3,b4,b5,fun z hz'=>by rw [b6 z hz',rp mM (u9 mM hgi o1)]⟩
     ·have Ul:=hS2 _ _ h1'
      have RB:=hS2 _ _ PJ
      have S7:=z8 hA'.ndk hA'.Lw hA'.wg
      walk_at "x"
      refine Dh RB (by omega) ?_
      obtain ⟨l1,l2⟩:=hA'.Rb hS2 hgm he h2 hE wo fun z hz'=>by rw [nM z hz',IL mM hgi]
      have l3:gE H' (upd H2 A'.dk (.dK (putK A'.es (Sum.inl (g.id:Int)) (.ref e)))) A' {A' with es:=putK A'.es (Sum.inl (g.id:Int)) (.ref e),im:=e::A'.im}:=⟨rfl,rfl,fun b o q hn=>by
       rw [au (fun z=>by
        rw [z,PJ] at q
        exact hn _ (ax q).symm)]
       exact hS2 b o q⟩
      refine ⟨_,_,rfl,l1,hL.trans l2,hKe.trans l3,?_,fun j gj hj hgj S1 => ?_⟩
      ·have:p≠A'.dk:=bR hp' hA'.dk (by intro z;cases z)
       rw [au this]
       exact hS2 _ _ hp'
      ·show ∃ v,b0 (putK A'.es (Sum.inl (g.id:Int)) (.ref e)) _=some v
       rw [kG]
       by_cases q:(Sum.inl (gj.id:Int):Key)=Sum.inl (g.id:Int)
       ·rw [if_pos q]
        exact ⟨_,rfl⟩
       ·rw [if_neg q]
        rcases aZ j i with z|z
        ·exact hkn j gj z hgj S1
        ·have:j=i:=by omega
         subst this
         rw [hgi] at hgj
         cases hgj
         exact (q rfl).elim
   ·walk_at "x"
    exact oR fun _ q=>(hle q).elim
 ·rintro σ H' ⟨A',v2,rfl,hA',hL,hKe,hp',hkn⟩
  obtain ⟨i,hi⟩:=cH.mp hg0
  have hil:=(ak.mp hi).1
  obtain ⟨v,hv⟩:=hkn i g0 (by simp;exact hil) hi (ay _)
  obtain ⟨e,es,e1,e2,e3,e4,e5,e6⟩:=hA'.kno g0 hg0 v hv
  subst e1
  have h1':=hA'.ins
  rw [hL.sw] at h1'
  have qk:=hA'.zZ
  have PJ:=hA'.dk
  walk_at "x"
  exact k H' A' e es hA' hL e3 e4 (bB (uU e4.inc e5) hTl) e6 hKe
end
section
variable {K:Frag} {C:CC} {vs:List V} {H:Hp} {Q:VK} {E:XK}
open Vbcnan (State Group Part Rule)
theorem K0 (kvs:List (Key×V)) (k:Key) (v:V):(putK kvs k v).length<=kvs.length+1:=by
 unfold putK
 split
 ·rw [ab]
  omega
 ·rw [aG,cg]
  exact ay _
def aU (C:CC):Sp:=fun vs H Q _=>∃ (s:State) (A:SA) (z:Nat),vs=[.ref A.sw,.int z]/\bG C H s A /\
 ∀ H' d kvs,bf H H'->H d=none->H' d=some (.dK kvs)->(∀ g,g∈s.groups->b0 kvs (Sum.inl (g.id:Int))=some (.bl (Vbcnan.isIn s.groups g.id z)))->Q (.ref d) H'
theorem nE (T:TxS K C) (h:aU C vs H Q E):fu K eF (Ed Q) (start fK vs) H:=by
 obtain ⟨s,A,z,rfl,hA,k⟩:=h
 obtain ⟨tc,n1,n2,n3,n4,n5,TT⟩:=T
 have hz:=sizeLine_eq
 have q1:=hA.df
 have mM:=hA.wg.inc
 have hgl:=hA.wg.len
 unfold fu
 walk_at "x"
 intro d hd
 have sm:bf H (upd H d (.dK [])):=br (bf.refl H) hd
 have h1:=sm _ _ hA.ins
 have hdg:=sm _ _ hA.dg
 have hdd:upd H d (.dK []) d=some (.dK []):=aw
 generalize upd H d (.dK [])=H1 at sm h1 hdg hdd ⊢
 walk_at "x"
 obtain ⟨ns,hns,h64,Pt⟩:=hA.xA
 refine ⟨A.dg,A.kvs,ns,rfl,hdg,hns,h64,fun ns' p LF hpw hp => ?_⟩
 have:=Pt ns' LF hpw
 subst this
 have hpl:upd H1 p (.lst ((s.groups.map fun g=>(g.id:Int)).map V.int)) p=some (.lst ((s.groups.map fun g=>(g.id:Int)).map V.int)):=aw
 have hps:SqL K (upd H1 p (.lst ((s.groups.map fun g=>(g.id:Int)).map V.int))) p ((s.groups.map fun g=>(g.id:Int)).map V.int):=SqL.of hpl
 have sm0:bf H1 (upd H1 p (.lst ((s.groups.map fun g=>(g.id:Int)).map V.int))):=br (bf.refl H1) hp
 walk_at "x"
 refine dO (K:=K) (a:=p) (xs:=(s.groups.map fun g=>(g.id:Int)).map V.int) (fun i σ H'=>∃ (kvs:List (Key×V)) (v3:Option V),σ = [some (.ref A.sw),some (.int z),some (.ref d),v3]/\bf H H'/\H' p=some (.lst ((s.groups.map fun g=>(g.id:Int)).map V.int))/\H' d=some (.dK kvs)/\kvs.length<=i /\
  ∀ j g,j<i->s.groups[j]? = some g->b0 kvs (Sum.inl (g.id:Int))=some (.bl (Vbcnan.isIn s.groups g.id z)))
  ⟨[],none,rfl,sm.trans sm0,hpl,sm0 _ _ hdd,ay _,fun j g hj=>(by omega)⟩ (fun i σ H' _ ⟨_,_,_,_,e,_⟩=>SqL.of e) ?_ ?_
 ·rintro i x σ H' hx ⟨kvs,v3,rfl,hS,hp',hd',hkl,hkn⟩
  rw [a9,a9] at hx
  cases hgi:s.groups[i]? with
  |none =>
   rw [hgi] at hx
   cases hx
  |some g =>
   rw [hgi] at hx
   have ex:x=.int (g.id:Int):=(ax hx).symm
   subst ex
   have hgm:g∈s.groups:=aJ hgi
   have hil:=(ak.mp hgi).1
   have h1':=hS _ _ hA.ins
   have Tg:=hS _ _ hA.dg
   obtain ⟨a,a1,a0,qs,a2,a3⟩:=hA.grp g hgm
   walk_at "x"
   refine ⟨a,d,z,g.parts,kvs,Vbcnan.inAll (s.groups.take i) z,rfl,⟨qs,hS _ _ a2,Paired.imp (fun q p x=>hS _ _ x.2) a3⟩,hd',fun pt hpt => ?_,?_⟩
   ·have o:=hA.wg.ok g hgm pt hpt
    cases pt with
    |add lo hi=>trivial
    |sub lo hi=>trivial
    |with_ k =>
     obtain ⟨o1,x,o2,o3⟩:=o
     obtain ⟨j,j1,j2⟩:=ro mM hgi o2 (by omega)
     have q:=hkn j x j1 j2
     rw [o3] at q
     show b0 kvs _=_
     rw [q,rp mM (u9 mM hgi o1)]
    |but k =>
     obtain ⟨o1,x,o2,o3⟩:=o
     obtain ⟨j,j1,j2⟩:=ro mM hgi o2 (by omega)
     have q:=hkn j x j1 j2
     rw [o3] at q
     show b0 kvs _=_
     rw [q,rp mM (u9 mM hgi o1)]
   ·rw [<-IL mM hgi]
    walk_at "x"
    refine Dh hd' (by omega) ?_
    have npd:p≠d:=bR hp' hd' (by intro q;cases q)
    refine ⟨_,_,rfl,fun b o e => ?_,by rw [au npd];exact hp',aw,bB (K0 _ _ _) (by omega),fun j gj hj hgj => ?_⟩
    ·rw [au (az e hd)]
     exact hS b o e
    ·rw [kG]
     by_cases q:(Sum.inl (gj.id:Int):Key)=Sum.inl (g.id:Int)
     ·rw [if_pos q,uT q]
     ·rw [if_neg q]
      rcases aZ j i with y|y
      ·exact hkn j gj y hgj
      ·have:j=i:=by omega
       subst this
       rw [hgi] at hgj
       cases hgj
       exact (q rfl).elim
 ·rintro σ H' ⟨kvs,v3,rfl,hS,hp',hd',hkl,hkn⟩
  walk_at "x"
  refine k H' d kvs hS hd hd' fun g hg => ?_
  obtain ⟨j,hj⟩:=cH.mp hg
  exact hkn j g (by simp;exact (ak.mp hj).1) hj
def b7 (C:CC):Sp:=fun vs H Q _=>∃ (s:State) (A:SA) (g:Group),vs=[.ref A.sw,.int g.id]/\bG C H s A/\g∈s.groups/\(s.rules.any fun r=>Vbcnan.usesGroup g.id r)=false/\(s.groups.any fun h=>Vbcnan.refers g.id h.parts)=false /\
 ∀ H' A',bG C H' {s with groups:=s.groups.filter fun h=>h.id != g.id} A'->Left H H' A A'->Q .non H'
theorem qr (T:TxS K C) (h:b7 C vs H Q E):gJ K (Ed Q) (start il vs) H:=by
 obtain ⟨s,A,g0,rfl,hA,hg0,hru,hre,k⟩:=h
 obtain ⟨tc,n1,n2,n3,n4,n5,TT⟩:=T
 have h1:=hA.ins
 have g1:=hA.df
 obtain ⟨a0,a1,_⟩:=hA.grp g0 hg0
 unfold gJ
 walk_at "x"
 unfold GP
 walk_at "x"
 refine ⟨A.dg,rfl,.inl ⟨A.kvs,.inl hA.dg⟩,?_⟩
 walk_at "x"
 refine ⟨A.kvs,Sum.inl (g0.id:Int),.ref a0,hA.dg,rfl,a1,?_⟩
 generalize hk2:kL A.kvs (Sum.inl (g0.id:Int))=nL
 have nsg:A.sw≠A.dg:=bR hA.ins hA.dg (by intro z;cases z)
 have h2:upd H A.dg (.dK nL) A.sw=some (.ins C.sw A.dx (A.fs s)):=by rw [au nsg];exact h1
 have hg2:upd H A.dg (.dK nL) A.dg=some (.dK nL):=aw
 have kp2:∀ b o,H b=some o->b≠A.dg->upd H A.dg (.dK nL) b=some o:=fun b o e hb=>by rw [au hb];exact e
 have dm2:∀ b,upd H A.dg (.dK nL) b=none->H b=none:=fun b h=>cc h
 generalize upd H A.dg (.dK nL)=H2 at h2 hg2 kp2 dm2 ⊢
 walk_at "x"
 intro dk hdk
 have h3:upd H2 dk (.dK []) A.sw=some (.ins C.sw A.dx (A.fs s)):=by rw [au (az h2 hdk)];exact h2
 walk_at "x"
 refine dA h3 tc n4 (show 5<1000 by decide) ?_
 rw [CA]
 have h4:upd (upd H2 dk (.dK [])) A.sw (.ins C.sw A.dx (gO (.int (if s.on then (s.most:Int) else 0)) (.ref A.dg) (.ref A.lr) (.ref dk) A.kt)) A.sw=some (.ins C.sw A.dx (gO (.int (if s.on then (s.most:Int) else 0)) (.ref A.dg) (.ref A.lr) (.ref dk) A.kt)):=aw
 walk_at "x"
 refine dA h4 tc n5 (show 5<1000 by decide) ?_
 rw [lT,gS]
 have ndk:dk≠A.sw:=fun q=>by rw [q,h2] at hdk;cases hdk
 have ngk:A.dg≠dk:=az hg2 hdk
 have kp:∀ b o,H b=some o->b≠A.dg->b≠A.sw->upd (upd H2 dk (.dK [])) A.sw (.ins C.sw A.dx (gO (.int (if s.on then (s.most:Int) else 0)) (.ref A.dg) (.ref A.lr) (.ref dk) .non)) b=some o:=fun b o e hb hs=>by
  rw [au hs,au (az (kp2 b o e hb) hdk)]
  exact kp2 b o e hb
 have frk:H dk=none:=by
  cases e:H dk with
  |none=>rfl
  |some o =>
   rw [kp2 dk o e ngk.symm] at hdk
   cases hdk
 have nlg:A.lr≠A.dg:=bR hA.lr hA.dg (by intro z;cases z)
 have nls:A.lr≠A.sw:=bR hA.lr hA.ins (by intro z;cases z)
 have nxg:A.dx≠A.dg:=bR hA.dx hA.dg (by intro z;cases z)
 have nxs:A.dx≠A.sw:=bR hA.dx hA.ins (by intro z;cases z)
 generalize hH:upd (upd H2 dk (.dK [])) A.sw (.ins C.sw A.dx (gO (.int (if s.on then (s.most:Int) else 0)) (.ref A.dg) (.ref A.lr) (.ref dk) .non))=H' at kp ⊢
 have hs':H' A.sw=some (.ins C.sw A.dx (gO (.int (if s.on then (s.most:Int) else 0)) (.ref A.dg) (.ref A.lr) (.ref dk) .non)):=by rw [<-hH,aw]
 have hg':H' A.dg=some (.dK nL):=by rw [<-hH,au nsg.symm,au ngk];exact hg2
 have hk':H' dk=some (.dK []):=by rw [<-hH,au ndk,aw]
 have kim:∀ b o,b∈A.im->(∃ xs,o=HO.lst xs)\/(∃ xs,o=HO.tup xs)->H b=some o->H' b=some o:=fun b o _ ho e=>kp b o e (fun q=>by
  rw [q,hA.dg] at e
  have e:=ax e
  rcases ho with ⟨xs,z⟩|⟨xs,z⟩<;>rw [z] at e<;>cases e) (fun q=>by
  rw [q,hA.ins] at e
  have e:=ax e
  rcases ho with ⟨xs,z⟩|⟨xs,z⟩<;>rw [z] at e<;>cases e)
 have pin:∀ b ps,m8 A.im H b ps->m8 A.im H' b ps:=fun b ps ⟨i0,qs',i1,i2⟩ =>
  ⟨i0,qs',kim _ _ i0 (.inl ⟨_,rfl⟩) i1,Paired.imp (fun q p ⟨x,y⟩=>⟨x,kim _ _ x (.inr ⟨_,rfl⟩) y⟩) i2⟩
 have hm:∀ g,g∈(s.groups.filter fun h=>h.id != g0.id)↔g∈s.groups/\g.id≠g0.id:=fun g=>by rw [fz,bne_iff_ne]
 have N0:∀ r,r∈s.rules->r.src≠some g0.id/\r.dst≠some g0.id:=fun r hr=>by
  rw [jJ] at hru
  have q:=hru r hr
  unfold Vbcnan.usesGroup at q
  rw [jk,beq_iff_eq,beq_iff_eq] at q
  exact ⟨fun e=>q (.inl e),fun e=>q (.inr e)⟩
 refine k H' ⟨A.sw,A.dx,A.dg,A.lr,dk,nL,A.rs,[],A.im,.non⟩ ⟨hs',kp _ _ hA.dx nxg nxs,hg',kp _ _ hA.lr nlg nls,hk',ngk,hA.li,hA.on,?_,fun g hg => ?_,fun k v hv => ?_,?_,fun g hg v hv=>(by cases hv),ff,fun k v hv=>(by cases hv),hA.most,.inl rfl,hA.wg.drop hre,?_,fun b hb q=>hA.imd b hb (by rw [<-hH] at q;exact dm2 b (cc (cc q)))⟩ ⟨rfl,fun b hb => ?_,fun b o e hb => ?_,fun b h=>by rw [<-hH] at h;exact dm2 b (cc (cc h))⟩
 ·subst hk2
  exact zK hA.nd
 ·show ∃ b,b0 nL _=_/\_
  obtain ⟨g2,g3⟩:=(hm g).mp hg
  subst hk2
  rw [uj,if_neg (fun e=>g3 (uT e))]
  obtain ⟨b,b1,b2⟩:=hA.grp g g2
  exact ⟨b,b1,pin b _ b2⟩
 ·have hv:b0 nL k=some v:=hv
  subst hk2
  rw [uj] at hv
  by_cases e:k=Sum.inl (g0.id:Int)
  ·rw [if_pos e] at hv
   cases hv
  ·rw [if_neg e] at hv
   obtain ⟨g,hg,e2⟩:=hA.keys k v hv
   exact ⟨g,(hm g).mpr ⟨hg,fun q=>e (by rw [e2,q])⟩,e2⟩
 ·exact Paired.imp (fun q r ⟨x,y⟩=>⟨x,kim _ _ x (.inr ⟨_,rfl⟩) y⟩) hA.rul
 ·refine ⟨hA.wr.few,fun r hr g e => ?_,fun r hr g e => ?_,hA.wr.kind,hA.wr.port⟩
  ·obtain ⟨x,x1,x2⟩:=hA.wr.src r hr g e
   exact ⟨x,(hm x).mpr ⟨x1,fun q=>(N0 r hr).1 (by rw [e,<-x2,q])⟩,x2⟩
  ·obtain ⟨x,x1,x2⟩:=hA.wr.dst r hr g e
   exact ⟨x,(hm x).mpr ⟨x1,fun q=>(N0 r hr).2 (by rw [e,<-x2,q])⟩,x2⟩
 ·have hb:b=A.dx\/b=A.sw\/b=A.dg\/b=A.lr\/b=dk\/b∈A.im:=by simpa [SA.own,SA.mut,or_assoc] using hb
  rcases hb with rfl|rfl|rfl|rfl|rfl|q
  ·exact .inl (by simp [SA.own])
  ·exact .inl (by simp [SA.own,SA.mut])
  ·exact .inl (by simp [SA.own,SA.mut])
  ·exact .inl (by simp [SA.own,SA.mut])
  ·exact .inr frk
  ·exact .inl (by simp [SA.own,q])
 ·exact kp b o e (fun q=>hb (by rw [q];simp [SA.own,SA.mut])) (fun q=>hb (by rw [q];simp [SA.own,SA.mut]))
end
section
variable {K:Frag} {C:CC} {vs:List V} {H:Hp} {Q:VK} {E:XK}
open Vbcnan (State Group Part Rule)
theorem bG.has {C:CC} {H:Hp} {s:State} {A:SA} (h:bG C H s A) (n:Int):(b0 A.kvs (Sum.inl n)).isSome=Vbcnan.known s n:=by
 rw [bU,fg h.wg]
 constructor
 ·intro q
  obtain ⟨v,hv⟩:=xl.mp q
  obtain ⟨g,hg,e⟩:=h.keys _ v hv
  exact ⟨g,hg,(Sum.inl.inj e).symm⟩
 ·rintro ⟨g,hg,rfl⟩
  obtain ⟨a,h1,_⟩:=h.grp g hg
  rw [h1]
  rfl
def Ans (C:CC) (H:Hp) (s':State) (A:SA) (ans:List Int) (Q:VK):Prop:=∀ H' A' p,bG C H' s' A'->Left H H' A A'->H p=none->H' p=some (.lst (ans.map V.int))->Q (.ref p) H'
theorem Ans.give {C:CC} {H:Hp} {s:State} {A:SA} {ans:List Int} {Q:VK} (h:Ans C H s A ans Q) (hA:bG C H s A) {p:Addr} (hp:H p=none):Q (.ref p) (upd H p (.lst (ans.map V.int))) :=
 have sm:=br (o:=.lst (ans.map V.int)) (bf.refl H) hp
 h _ A p (hA.same fun b o _ e=>sm b o e) (Left.of_same A sm) hp aw
theorem Ans.fin {s:State} {A:SA} {ans:List Int} (h:Ans C H s A ans Q) (hA:bG C H s A) (hz:ans.length<=3:=by exact Nat.le_of_ble_eq_true rfl):(ans.map V.int).length<=sizeLine/\∀ p,H p=none->Q (.ref p) (upd H p (.lst (ans.map V.int))):=⟨by rw [ab,sizeLine_eq];omega,fun p hp=>h.give hA hp⟩
theorem Ans.more {C:CC} {H H1:Hp} {s:State} {A:SA} {ans:List Int} {Q:VK} (h:Ans C H s A ans Q) (sm:bf H H1):Ans C H1 s A ans Q:=fun H' A' p hA hL hp hq=>by
 refine h H' A' p hA ⟨hL.sw,fun b hb => ?_,fun b o e hb=>hL.keep b o (sm b o e) hb,fun b q=>sm.free (hL.dom b q)⟩ (sm.free hp) hq
 rcases hL.grow b hb with q|q
 ·exact .inl q
 ·exact .inr (sm.free q)
def dG (C:CC):Sp:=fun vs H Q _=>∃ (s:State) (A:SA) (id:Int) (q:Addr) (xs:List Int),vs=[.ref A.sw,.int id,.ref q]/\bG C H s A/\H q=some (.tup (xs.map V.int))/\xs.length<=3/\Q (.int (kD s id xs)) H
theorem lX {n:Int} {H:Hp} {Q:VK} {E:XK} (h:Q (.bl (decide (n=2) || decide (n=3))) H):bA ([.int n]++[]) H Q E:=⟨n,rfl,h⟩
theorem LU {p q:Prop} [Decidable p] [Decidable q]:(decide p || decide q)=decide (p\/q):=by
 rw [bU,jk,decide_eq_true_iff,decide_eq_true_iff,decide_eq_true_iff]
theorem zj (T:TxS K C) (h:dG C vs H Q E):lZ K bJ bA (Ed Q) (start nP vs) H:=by
 obtain ⟨s,A,id,q,xs,rfl,hA,hq,hl,k⟩:=h
 obtain ⟨tc,n1,n2,n3,n4,n5,TT⟩:=T
 have h1:=hA.ins
 have hdg:=hA.dg
 have g1:=hA.df
 have hqs:SqT K H q (xs.map V.int):=SqT.of hq
 unfold lZ
 have short:∀ ys:List Int,xs=ys->ys.length<3->kD s id ys=-2:=by
  intro ys _ hy
  cases ys with
  |nil=>rfl
  |cons y1 ys =>
   cases ys with
   |nil=>rfl
   |cons y2 ys =>
    cases ys with
    |nil=>rfl
    |cons y3 ys =>
     simp at hy
     omega
 by_cases hl3:xs.length<3
 ·rw [short xs rfl hl3] at k
  have hl4:(xs.map V.int).length<3:=by rw [ab];exact hl3
  walk_at "x"
  exact k
 obtain ⟨c,a,b,rfl⟩:∃ c a b,xs=[c,a,b]:=by
  cases xs with
  |nil=>simp at hl3
  |cons y1 ys =>
   cases ys with
   |nil=>simp at hl3
   |cons y2 ys =>
    cases ys with
    |nil=>simp at hl3
    |cons y3 ys =>
     cases ys with
     |nil=>exact ⟨y1,y2,y3,rfl⟩
     |cons y4 ys =>
      simp at hl
 have hqs:SqT K H q [.int c,.int a,.int b]:=hqs
 have k:Q (.int (if c=0\/c=1 then (if 0<=a/\a<=b/\b<=4294967295 then 0 else -2) else if c=2\/c=3 then (if b≠0 then -2 else if Vbcnan.known s a=true/\a<id then 0 else -3) else -2)) H:=k
 walk_at "x"
 refine cP ?_
 rw [LU]
 walk_at "x"
 refine D8 (fun e1 => ?_) (fun e1 => ?_)
 ·rw [if_pos (of_decide_eq_true e1)] at k
  walk_at "x"
  by_cases c1:0<=a
  ·by_cases c2:a<=b
   ·by_cases c3:b<=4294967295
    ·rw [if_pos ⟨c1,c2,c3⟩] at k
     walk_at "x"
     exact k
    ·rw [if_neg (fun q=>c3 q.2.2)] at k
     walk_at "x"
     exact k
   ·rw [if_neg (fun q=>c2 q.2.1)] at k
    walk_at "x"
    exact k
  ·rw [if_neg (fun q=>c1 q.1)] at k
   walk_at "x"
   exact k
 ·rw [if_neg (fun q=>e1 (decide_eq_true q))] at k
  walk_at "x"
  refine lX ?_
  rw [LU]
  walk_at "x"
  refine D8 (fun e2 => ?_) (fun e2 => ?_)
  ·have e2':¬(c=2\/c=3):=fun q=>by rw [decide_eq_true q] at e2;cases e2
   rw [if_neg e2'] at k
   walk_at "x"
   exact k
  ·have e2':c=2\/c=3:=by
    by_cases q:c=2\/c=3
    ·exact q
    ·rw [decide_eq_false q] at e2
     exact (e2 rfl).elim
   rw [if_pos e2'] at k
   walk_at "x"
   by_cases c1:b=0
   ·rw [if_neg (fun q=>q c1)] at k
    walk_at "x"
    rw [hA.has a]
    cases hk:Vbcnan.known s a with
    |true =>
     by_cases c2:a<id
     ·rw [if_pos ⟨hk,c2⟩] at k
      walk_at "x"
      exact k
     ·rw [if_neg (fun q=>c2 q.2)] at k
      walk_at "x"
      exact k
    |false =>
     rw [if_neg (fun q=>by rw [hk] at q;cases q.1)] at k
     walk_at "x"
     exact k
   ·rw [if_pos c1] at k
    walk_at "x"
    exact k
end
section
variable {K:Frag} {C:CC} {vs:List V} {H:Hp} {Q:VK} {E:XK}
open Vbcnan (State Group Part Rule)
theorem ND {xs:List Int} {i j:Nat} (hi:i<=xs.length):rT (xs.map V.int) (some (i:Int)) (some (j:Int))=((xs.drop i).take (j-i)).map V.int:=by
 unfold rT
 rw [HT.uD,HT.uD,ab]
 have e1:min i xs.length=i:=by omega
 rw [e1,xm,List.map_drop]
 rcases aZ xs.length j with z|z
 ·have e2:min j xs.length=xs.length:=by omega
  rw [e2]
  rw [a8 (by rw [iz,ab];exact ay _),a8 (by rw [iz,ab];omega)]
 ·have e2:min j xs.length=j:=by omega
  rw [e2]
theorem Ld {k a b:Int} (h:(k=0/\0<=a/\0<=b)\/(k=1/\0<=a/\0<=b)\/(k=2/\0<=a/\b=0)\/(k=3/\0<=a/\b=0)):uP (oW k a b)=[.int k,.int a,.int b]:=by
 rcases h with ⟨rfl,h1,h2⟩|⟨rfl,h1,h2⟩|⟨rfl,h1,rfl⟩|⟨rfl,h1,rfl⟩
 ·show [V.int 0,V.int (a.toNat:Int),V.int (b.toNat:Int)]=_
  rw [de h1,de h2]
 ·show [V.int 1,V.int (a.toNat:Int),V.int (b.toNat:Int)]=_
  rw [de h1,de h2]
 ·show [V.int 2,V.int (a.toNat:Int),V.int 0]=_
  rw [de h1]
 ·show [V.int 3,V.int (a.toNat:Int),V.int 0]=_
  rw [de h1]
def dj (C:CC):Sp:=fun vs H Q _=>∃ (s:State) (A:SA) (id:Int) (l:Addr) (ls:List Int),vs=[.ref A.sw,.int id,.ref l]/\bG C H s A/\H l=some (.lst (ls.map V.int))/\Ans C H (Vbcnan.doing s (.group id ls)).1 A (Vbcnan.doing s (.group id ls)).2 Q
theorem xU (T:TxS K C) (h:dj C vs H Q E):kT K C.sw (dG C) (cp C) (Ed Q) (start mH vs) H:=by
 obtain ⟨s,A,id,l,ls,rfl,hA,hl,k⟩:=h
 obtain ⟨tc,n1,n2,n3,n4,n5,TT⟩:=T
 have hz:=sizeLine_eq
 have hls:SqL K H l (ls.map V.int):=SqL.of hl
 unfold kT
 by_cases hc:0<=id/\id<=15/\ls.length<=48
 case neg =>
  have e:Vbcnan.doing s (.group id ls)=(s,[-1]):=by
   have:(Vbcnan.isId id&&decide (ls.length<=48))=false:=by
    unfold Vbcnan.isId Vbcnan.within
    rw [<-pP,aE,aE,decide_eq_true_iff,decide_eq_true_iff,decide_eq_true_iff]
    exact fun q=>hc ⟨q.1.1,q.1.2,q.2⟩
   show (if (Vbcnan.isId id&&decide (ls.length<=48))=false then (s,[-1]) else match Vbcnan.partsOf s id ls with
    |.error e=>(s,[e])
    |.ok ps=>({s with groups:=Vbcnan.putGroup ⟨id.toNat,ps⟩ s.groups},[0]))=_
   rw [if_pos this]
  rw [e] at k
  have fin:∀ p,H p=none->Q (.ref p) (upd H p (.lst [V.int (-1)])):=fun p hp=>k.give hA hp
  by_cases c1:0<=id
  ·by_cases c2:id<=15
   ·have c3:¬ls.length<=48:=fun q=>hc ⟨c1,c2,q⟩
    walk_at "x"
    exact ⟨by show 1<=sizeLine;omega,fin⟩
   ·walk_at "x"
    exact ⟨by show 1<=sizeLine;omega,fin⟩
  ·walk_at "x"
   exact ⟨by show 1<=sizeLine;omega,fin⟩
 case pos =>
  obtain ⟨c1,c2,c3⟩:=hc
  have e:Vbcnan.doing s (.group id ls)=match Vbcnan.partsOf s id ls with
   |.error e=>(s,[e])
   |.ok ps=>({s with groups:=Vbcnan.putGroup ⟨id.toNat,ps⟩ s.groups},[0]):=by
   have:¬(Vbcnan.isId id&&decide (ls.length<=48))=false:=by
    unfold Vbcnan.isId Vbcnan.within
    rw [Bool.not_eq_false,aE,aE,decide_eq_true_iff,decide_eq_true_iff,decide_eq_true_iff]
    exact ⟨⟨c1,c2⟩,c3⟩
   show (if (Vbcnan.isId id&&decide (ls.length<=48))=false then (s,[-1]) else match Vbcnan.partsOf s id ls with
    |.error e=>(s,[e])
    |.ok ps=>({s with groups:=Vbcnan.putGroup ⟨id.toNat,ps⟩ s.groups},[0]))=_
   rw [if_neg this]
  walk_at "x"
  refine ⟨aT _,fun P hP => ?_⟩
  have Uc:SqL K (upd H P (.lst [])) l (ls.map V.int):=fe hls hP
  walk_at "x"
  have rg:=DT (len:=ls.length) (c:=3) (by decide) (by decide) (by omega)
  generalize hn:(ls.length+3-1) / 3=n at rg
  have hn1:3*n<=ls.length+2:=by omega
  have hn2:ls.length<=3*n:=by omega
  rw [ab]
  refine ⟨0,_,3,_,rfl,rg,?_⟩
  refine o7 (n:=n) (fun i σ H'=>∃ (qs:List Addr) (done:List Part) (v4 v5 v6:Option V),σ = [some (.ref A.sw),some (.int id),some (.ref l),some (.ref P),v4,v5,v6]/\H' P=some (.lst (qs.map V.ref))/\Paired (fun q p=>H' q=some (.tup (uP p))) qs done/\(∀ q,q∈qs->H q=none)/\bf H H'/\done.length=i/\(∀ p,p∈done->qU s.groups id.toNat p) /\
   Vbcnan.partsOf s id ls=match Vbcnan.partsOf s id (ls.drop (3*i)) with
    |.ok r=>.ok (done++r)
    |.error e=>.error e)
   ⟨[],[],none,none,none,rfl,aw,.nil,fun q hq=>(by cases hq),br (bf.refl H) hP,rfl,fun p hp=>(by cases hp),by
    show Vbcnan.partsOf s id ls=match Vbcnan.partsOf s id ls with
     |.ok r=>.ok ([]++r)
     |.error e=>.error e
    cases Vbcnan.partsOf s id ls<;>rfl⟩ (fun i σ H' hi _=>hi) (fun σ H' _=>ay _) ?_ ?_
  ·rintro i x σ H1 H' hi ⟨qs,done,v4,v5,v6,rfl,hPq,hpd,hfr,hS,hdl,hok,hpo⟩ ⟨rfl,rfl⟩
   have hil:3*i<ls.length:=by omega
   have hne:ls.drop (3*i) ≠ []:=fun q=>by
    have:=pV.mp q
    omega
   have hl':SqL K H' l (ls.map V.int):=SqL.of (hS _ _ hl)
   have e1:(0+((i:Nat):Int)*3)=((3*i:Nat):Int):=by omega
   have e2:(0+((i:Nat):Int)*3+3)=((3*i+3:Nat):Int):=by omega
   walk_at "x"
   refine Cp hl' fun p1 hp1 => ?_
   rw [e2,e1,ND (by omega)]
   have e3:3*i+3-3*i=3:=by omega
   rw [e3]
   generalize hxs:(ls.drop (3*i)).take 3=xs
   have hxl:xs.length<=3:=by rw [<-hxs,bL];omega
   have SR:SqL K (upd H' p1 (.lst (xs.map V.int))) p1 (xs.map V.int):=SqL.of aw
   walk_at "x"
   refine Kp SR fun t ht => ?_
   have s1:bf H' (upd H' p1 (.lst (xs.map V.int))):=br (bf.refl H') hp1
   have s2:bf H' (upd (upd H' p1 (.lst (xs.map V.int))) t (.tup (xs.map V.int))):=br s1 ht
   have htt:upd (upd H' p1 (.lst (xs.map V.int))) t (.tup (xs.map V.int)) t=some (.tup (xs.map V.int)):=aw
   have frt:H t=none:=hS.free (s1.free ht)
   generalize upd (upd H' p1 (.lst (xs.map V.int))) t (.tup (xs.map V.int))=H2 at s2 htt ⊢
   have hA2:bG C H2 s A:=hA.same fun b o _ q=>s2 b o (hS b o q)
   walk_at "x"
   refine ⟨s,A,id,t,xs,rfl,hA2,htt,hxl,?_⟩
   walk_at "x"
   by_cases hr:kD s id xs<0
   ·have er:=JL hne (by rw [hxs];exact hr)
    rw [hxs] at er
    rw [er] at hpo
    have hpo:Vbcnan.partsOf s id ls=.error (kD s id xs):=hpo
    rw [e,hpo] at k
    walk_at "x"
    refine ⟨by show 1<=sizeLine;omega,fun p hp => ?_⟩
    exact (k.more (hS.trans s2)).give hA2 hp
   ·obtain ⟨c,a,b,r,el,ep⟩:=G9 hne (by rw [hxs];exact hr)
    have ex:xs=[c,a,b]:=by rw [<-hxs,el];rfl
    subst ex
    obtain ⟨o1,o2⟩:=JE hA.wg c1 hr
    have RE:=s2 _ _ hPq
    walk_at "x"
    refine eT RE (by rw [ab,hpd.length];omega) ?_
    have nPt:t≠P:=fun q=>by rw [q,RE] at htt;cases htt
    have hqP:∀ q p,H' q=some (.tup (uP p))->q≠P:=fun q p hq=>bR hq hPq (by intro z;cases z)
    have hdr:ls.drop (3*(i+1))=r:=by
     have:3*(i+1)=3*i+3:=by omega
     rw [this,<-oj,el]
     rfl
    refine ⟨qs++[t],done++[oW c a b],_,_,_,rfl,?_,Paired.snoc ?_ (Paired.imp (fun q p hq => ?_) hpd),fun q hq => ?_,fun bb o q => ?_,by simp [hdl],fun p hp => ?_,?_⟩
    ·rw [aw,bt]
     rfl
    ·rw [au nPt,Ld o2]
     exact htt
    ·rw [au (hqP q p hq)]
     exact s2 _ _ hq
    ·rcases aQ.mp hq with z|z
     ·exact hfr q z
     ·rw [aO.mp z]
      exact frt
    ·rw [au (az q hP)]
     exact s2 _ _ (hS _ _ q)
    ·rcases aQ.mp hp with z|z
     ·exact hok p z
     ·rw [aO.mp z]
      exact o1
    ·rw [hpo,ep,hdr]
     cases Vbcnan.partsOf s id r with
     |error e=>rfl
     |ok q=>simp
  ·rintro σ H' ⟨qs,done,v4,v5,v6,rfl,hPq,hpd,hfr,hS,hdl,hok,hpo⟩
   have SU:ls.drop (3*n)=[]:=pV.mpr hn2
   rw [SU] at hpo
   have hpo:Vbcnan.partsOf s id ls=.ok (done++[]):=hpo
   rw [cS] at hpo
   rw [e,hpo] at k
   have hA':bG C H' s A:=hA.same fun b o _ q=>hS b o q
   have h1:=hA'.ins
   walk_at "x"
   have eid:id=((id.toNat:Nat):Int):=by omega
   have nPl:P≠A.lr:=fun q=>by rw [q,hA.lr] at hP;cases hP
   rw [eid]
   refine ⟨s,A,id.toNat,P,qs,done,rfl,hA',by omega,by omega,hok,hPq,hpd,nPl,fun H2 A2 hA2 hsw hgr hkp hdm => ?_⟩
   walk_at "x"
   refine ⟨by show 1<=sizeLine;omega,fun p hp => ?_⟩
   have sm:=br (o:=.lst [V.int 0]) (bf.refl H2) hp
   have kp0:∀ b o,H b=some o->b∉A.own->H2 b=some o:=fun b o q hb=>hkp b o (hS b o q) hb
   refine k _ A2 p (hA2.same fun b o _ q=>sm b o q) ⟨hsw,fun b hb => ?_,fun b o q hb=>sm _ _ (kp0 b o q hb),fun b q=>hS.free (hdm b (sm.free q))⟩ (hS.free (hdm p hp)) aw
   rcases hgr b hb with z|z|z|z
   ·exact .inl z
   ·rw [z]
    exact .inr hP
   ·exact .inr (hfr b z)
   ·exact .inr (hS.free z)
end
section
variable {K:Frag} {C:CC} {vs:List V} {H:Hp} {Q:VK} {E:XK}
open Vbcnan (State Group Part Rule)
def fN (C:CC):Sp:=fun vs H Q _=>∃ (s:State) (A:SA) (n:Nat),vs=[.ref A.sw,.int n]/\bG C H s A/\∀ p l,H p=none->Q (.bl (s.rules.any fun r=>Vbcnan.usesGroup n r)) (upd H p (.lst l))
theorem Le (n:Nat) (o:Option Nat):(decide (V.int (n:Int)=eZ o))=(o==some n):=by
 cases o with
 |none =>
  have:¬(V.int (n:Int)=eZ none):=fun e=>by
   have e:(n:Int)=-1:=V.int.inj e
   omega
  rw [decide_eq_false this]
  rfl
 |some m =>
  rw [bU,decide_eq_true_iff,beq_iff_eq]
  constructor
  ·intro e
   have e:(n:Int)=m:=V.int.inj e
   congr 1
   omega
  ·intro e
   have:=ax e
   rw [this]
   rfl
theorem Fq (T:TxS K C) (h:fN C vs H Q E):pZ K (Ed Q) (start pz vs) H:=by
 obtain ⟨s,A,n,rfl,hA,k⟩:=h
 obtain ⟨tc,n1,n2,n3,n4,n5,TT⟩:=T
 have hz:=sizeLine_eq
 have h1:=hA.ins
 have g1:=hA.gi
 have hls:SqL K H A.lr (A.rs.map V.ref):=SqL.of hA.lr
 have hrl:A.rs.length=s.rules.length:=hA.rul.length
 have Ht:=hA.wr.few
 unfold pZ
 walk_at "x"
 intro D hD
 refine Hk (J:=Itl K A.lr) (ys:=(s.rules.map fun r=>Vbcnan.usesGroup n r).map V.bl) hD (by simp only [ab];omega) (fun i acc hi => ?_) (fun acc => ?_) ?_ ?_
 ·simp only [ab] at hi
  exact ⟨A.rs.map V.ref,_,fe hls hD,aC (by rw [ab];omega)⟩
 ·exact ⟨A.rs.map V.ref,fe hls hD,by simp only [ab];omega⟩
 ·rintro i x acc H' N hi ⟨rfl,hy⟩ hN hac
  simp only [ab] at hi
  have hx:=hy _ (fe hls hD)
  obtain ⟨q,rfl,hq⟩:=cX hx
  obtain ⟨r,hr,hm,hqr⟩:=Paired.get hA.rul hq
  have hqt:SqT K (upd H D (.lst acc)) q (qm r):=SqT.of (by rw [au (az hqr hD)];exact hqr)
  have i1:atI (qm r) 1=some (eZ r.src):=rfl
  have i2:atI (qm r) 2=some (eZ r.dst):=rfl
  have hyr:((s.rules.map fun r=>Vbcnan.usesGroup n r).map V.bl)[i]? = some (.bl (Vbcnan.usesGroup n r)):=by
   rw [a9,a9,hr]
   rfl
  have fin:=hN _ hyr
  have eU:Vbcnan.usesGroup n r=((r.src==some n) || (r.dst==some n)):=rfl
  rw [eU] at fin
  have sc:∀ o:Option Nat,OW (V.int (n:Int)) (eZ o)=true:=fun o=>by cases o<;>rfl
  walk_at "x"
  refine ⟨rfl,?_⟩
  walk_at "x"
  refine ⟨sc _,?_⟩
  rw [Le]
  walk_at "x"
  cases e1:(r.src==some n) with
  |true =>
   rw [e1] at fin
   exact fin
  |false =>
   rw [e1] at fin
   walk_at "x"
   refine ⟨sc _,?_⟩
   rw [Le]
   exact fin
 ·walk_at "x"
  refine NU (SqL.of aw) ?_
  rw [List.any_map]
  exact k D _ hD
def fO (C:CC):Sp:=fun vs H Q _=>∃ (s:State) (A:SA) (n:Nat),vs=[.ref A.sw,.int n]/\bG C H s A/\∀ H',bf H H'->Q (.bl (s.groups.any fun g=>Vbcnan.refers n g.parts)) H'
def GZ (n:Nat):Part->Bool
 |.with_ x=>x==n
 |.but x=>x==n
 |_=>false
theorem GY (n:Nat) (l:List Part):Vbcnan.refers n l=l.any (GZ n):=by
 unfold Vbcnan.refers
 have:(fun p:Part=>match p with
  |.with_ x=>x==n
  |.but x=>x==n
  |_=>false)=GZ n:=by
  funext p
  cases p<;>rfl
 rw [<-this]
 congr 1
theorem yS {kvs:List (Key×V)} {k:Key} {v:V} (hn:(kvs.map (·.1)).Nodup) (h:(k,v)∈kvs):b0 kvs k=some v:=by
 induction kvs with
 |nil=>cases h
 |cons p r ih =>
  rw [aW,ee] at hn
  rcases ae.mp h with z|z
  ·rw [<-z]
   exact eV rfl
  ·rw [d5 (fun e=>hn.1 (bx.mpr ⟨_,z,e.symm⟩))]
   exact ih hn.2 z
theorem zN {kvs:List (Key×V)} {k:Key} {v:V} (h:b0 kvs k=some v):(k,v)∈kvs:=by
 induction kvs with
 |nil=>cases h
 |cons p r ih =>
  by_cases e:p.1=k
  ·rw [eV e] at h
   have:p=(k,v):=Prod.ext e (ax h)
   rw [this]
   exact ae.mpr (.inl rfl)
  ·rw [d5 e] at h
   exact ae.mpr (.inr (ih h))
theorem zS (a n:Nat):decide ((a:Int)=(n:Int))=(a==n):=by
 rw [bU,decide_eq_true_iff,beq_iff_eq]
 omega
theorem Fs (T:TxS K C) (h:fO C vs H Q E):p0 K bA (Ed Q) (start pC vs) H:=by
 obtain ⟨s,A,n,rfl,hA,k⟩:=h
 obtain ⟨tc,n1,n2,n3,n4,n5,TT⟩:=T
 have hz:=sizeLine_eq
 have g1:=hA.df
 have nsg:A.sw≠A.dg:=bR hA.ins hA.dg (by intro z;cases z)
 unfold p0
 walk_at "x1"
 refine ⟨A.dg,.dK A.kvs,hA.dg,trivial,fun od => ?_⟩
 have h1:upd H A.dg (.frz od (.dK A.kvs)) A.sw=_:=(au nsg).trans hA.ins
 have hf:upd H A.dg (.frz od (.dK A.kvs)) A.dg=some (.frz od (.dK A.kvs)):=aw
 have kp:∀ b o,H b=some o->b≠A.dg->upd H A.dg (.frz od (.dK A.kvs)) b=some o:=fun b o e hb=>by rw [au hb];exact e
 generalize upd H A.dg (.frz od (.dK A.kvs))=H1 at h1 hf kp ⊢
 have back:∀ H',bf H1 H'->bf H (upd H' A.dg (.dK A.kvs)):=fun H' sm b o e=>by
  by_cases q:b=A.dg
  ·rw [q,aw,<-hA.dg,<-q]
   exact e
  ·rw [au q]
   exact sm b o (kp b o e q)
 walk_at "x"
 unfold LB
 walk_at "x"
 refine ⟨A.dg,od,A.kvs,rfl,hf,?_⟩
 refine o7 (n:=A.kvs.length) (fun i σ H'=>∃ (v2 v3:Option V),σ = [some (.ref A.sw),some (.int n),v2,v3]/\bf H1 H'/\∀ j k v,j<i->A.kvs[j]? = some (k,v)->∀ g,g∈s.groups->k=Sum.inl (g.id:Int)->Vbcnan.refers n g.parts=false)
  ⟨none,none,rfl,bf.refl _,fun j k v hj=>(by omega)⟩ (fun i σ H' hi ⟨_,_,_,sm,_⟩=>⟨sm _ _ hf,hi⟩) (fun σ H' ⟨_,_,_,sm,_⟩=>⟨sm _ _ hf,ay _⟩) ?_ ?_
 ·rintro i x σ H2 H' hi ⟨v2,v3,rfl,sm,hno⟩ ⟨rfl,ky,hky⟩
  have LD:=yS hA.nd (aJ hky)
  obtain ⟨g,hg,ek⟩:=hA.keys ky x LD
  obtain ⟨a,a1,a0,qs,a2,a3⟩:=hA.grp g hg
  rw [ek] at LD
  have ex:x=.ref a:=ax (LD.symm.trans a1)
  subst ex
  have nag:a≠A.dg:=bR a2 hA.dg (by intro z;cases z)
  have ha2:=sm _ _ (kp _ _ a2 nag)
  have hls:SqL K H' a (qs.map V.ref):=SqL.of ha2
  have hql:qs.length=g.parts.length:=a3.length
  have Nq:=hA.wg.few g hg
  walk_at "x"
  intro D hD
  refine Hk (J:=Itl K a) (ys:=(g.parts.map (GZ n)).map V.bl) hD (by simp only [ab];omega) (fun i acc hi => ?_) (fun acc => ?_) ?_ ?_
  ·simp only [ab] at hi
   exact ⟨qs.map V.ref,_,fe hls hD,aC (by rw [ab];omega)⟩
  ·exact ⟨qs.map V.ref,fe hls hD,by simp only [ab];omega⟩
  ·rintro j y acc H3 N hj ⟨rfl,hy⟩ hN hac
   simp only [ab] at hj
   have hx:=hy _ (fe hls hD)
   obtain ⟨q,rfl,hq⟩:=cX hx
   obtain ⟨p,hp,hm,hqp⟩:=Paired.get a3 hq
   have nqg:q≠A.dg:=bR hqp hA.dg (by intro z;cases z)
   have Rl:=sm _ _ (kp _ _ hqp nqg)
   have hyr:((g.parts.map (GZ n)).map V.bl)[j]? = some (.bl (GZ n p)):=by
    rw [a9,a9,hp]
    rfl
   have fin:=hN _ hyr
   have hq3:upd H' D (.lst acc) q=some (.tup (uP p)):=by rw [au (az Rl hD)];exact Rl
   cases p with
   |add lo hi =>
    have hqt:SqT K (upd H' D (.lst acc)) q [.int 0,.int lo,.int hi]:=SqT.of hq3
    walk_at "x"
    refine ⟨rfl,?_⟩
    walk_at "x"
    refine lX ?_
    walk_at "x"
    exact fin
   |sub lo hi =>
    have hqt:SqT K (upd H' D (.lst acc)) q [.int 1,.int lo,.int hi]:=SqT.of hq3
    walk_at "x"
    refine ⟨rfl,?_⟩
    walk_at "x"
    refine lX ?_
    walk_at "x"
    exact fin
   |with_ m =>
    have hqt:SqT K (upd H' D (.lst acc)) q [.int 2,.int m,.int 0]:=SqT.of hq3
    walk_at "x"
    refine ⟨rfl,?_⟩
    walk_at "x"
    refine lX ?_
    walk_at "x"
    rw [zS]
    exact fin
   |but m =>
    have hqt:SqT K (upd H' D (.lst acc)) q [.int 3,.int m,.int 0]:=SqT.of hq3
    walk_at "x"
    refine ⟨rfl,?_⟩
    walk_at "x"
    refine lX ?_
    walk_at "x"
    rw [zS]
    exact fin
  ·have sm2:bf H1 (upd H' D (.lst ((g.parts.map (GZ n)).map V.bl))):=br sm hD
   walk_at "x"
   refine NU (SqL.of aw) ?_
   walk_at "x"
   rw [List.any_map]
   have er:(g.parts.any (id ∘ GZ n))=Vbcnan.refers n g.parts:=(GY n g.parts).symm
   rw [er]
   refine D8 (fun e => ?_) (fun e => ?_)
   ·walk_at "x"
    refine ⟨sm2 _ _ hf,?_⟩
    have:(s.groups.any fun g=>Vbcnan.refers n g.parts)=true:=pO.mpr ⟨g,hg,e⟩
    rw [this] at k
    exact k _ (back _ sm2)
   ·walk_at "x"
    refine ⟨_,_,rfl,sm2,fun j k' v hj hjk g' hg' e' => ?_⟩
    rcases aZ j i with z|z
    ·exact hno j k' v z hjk g' hg' e'
    ·have:j=i:=by omega
     subst this
     rw [hky] at hjk
     cases hjk
     rw [ek] at e'
     have eid:=uT e'
     have:g'=g:=by
      obtain ⟨i1,hi1⟩:=cH.mp hg
      obtain ⟨i2,hi2⟩:=cH.mp hg'
      have h12:i1=i2:=by
       have hw:=hA.wg.inc
       rcases vE i1 i2 with y|y|y
       ·have:=(zU hw hi2).1 g.id (bx.mpr ⟨g,aJ (by rw [xn y];exact hi1),rfl⟩)
        omega
       ·exact y
       ·have:=(zU hw hi1).1 g'.id (bx.mpr ⟨g',aJ (by rw [xn y];exact hi2),rfl⟩)
        omega
      rw [h12,hi2] at hi1
      exact ax hi1
     rw [this]
     simpa using e
 ·rintro σ H' ⟨v2,v3,rfl,sm,hno⟩
  refine ⟨sm _ _ hf,?_⟩
  walk_at "x"
  have:(s.groups.any fun g=>Vbcnan.refers n g.parts)=false:=by
   rw [jJ]
   intro g hg
   obtain ⟨a,a1,_⟩:=hA.grp g hg
   obtain ⟨j,hj⟩:=cH.mp (zN a1)
   rw [hno j _ _ (ak.mp hj).1 hj g hg rfl]
   exact aV
  rw [this] at k
  exact k _ (back _ sm)
end
section
variable {K:Frag} {C:CC} {vs:List V} {H:Hp} {Q:VK} {E:XK}
open Vbcnan (State Group Part Rule Field block coverOf)
def mW (fs:List Field):List Int:=fs.flatMap fun f=>[(f.mask:Int),(f.value:Int)]
theorem xr {K:Frag} {H0 H H':Hp} {root a:Addr} {D:List Int->Option Addr} {n:Nat} {ks:List (List Int)} {p:List Int} {i:Int} {Q:VK} (T:Trie H0 root H' D n (ks++[p])) (s:bf H0 H') (kp:∀ b o,H b=some o->yt o->H' b=some o) (ha:D p=some a) (hn:n<sizeLine)
 (h:∀ D' b H'',Trie H0 root H'' D' (n+1) (ks++[p++[i]])->D' (p++[i])=some b->bf H0 H''->(∀ b o,H b=some o->yt o->H'' b=some o)->Q (.ref b) H'') :
 tyV K "dict" (.ref a) H'/\∀ e,H' e=none->uJ (.ref a) [.int i,.ref e] (upd H' e (.dK [])) Q:=by
 obtain ⟨kvs,hk,nd,hl,h1,h2⟩:=T.dic p a ha
 refine ⟨.inr (.inr (.inl ⟨rfl,.inl ⟨kvs,hk⟩⟩)),fun e he => ?_⟩
 obtain ⟨s1,s2⟩:=T.step (i:=i) s ha hk he
 have kp1:∀ b o,H b=some o->yt o->upd H' e (.dK []) b=some o:=fun b o q hq=>by rw [au (az (kp b o q hq) he)];exact kp b o q hq
 refine Kq (kvs:=kvs) (by rw [au (az hk he)];exact hk) (by omega) (fun v hv => ?_) fun hv => ?_
 ·obtain ⟨b,rfl,hb,T'⟩:=s1 v hv
  exact h D b _ T' hb (br s he) kp1
 ·obtain ⟨D',hb,T'⟩:=s2 hv
  refine h D' e _ T' hb (eY (br s he) (T.fresh _ _ ha)) fun b o q hq => ?_
  rw [au (fun z=>by
   have:=kp b o q hq
   rw [z,hk] at this
   exact hq kvs (ax this).symm)]
  exact kp1 b o q hq
def dH:Sp:=fun vs H Q _=>∃ (H0:Hp) (root a:Addr) (D:List Int->Option Addr) (n:Nat) (ks:List (List Int)) (fs:List Field),vs=[.ref a,.ref root]/\LsR tP H a fs/\Trie H0 root H D n ks/\bf H0 H/\n+2*fs.length<sizeLine /\
 ∀ H' D',Trie H0 root H' D' (n+2*fs.length) (ks++[mW fs])->bf H0 H'->(∀ b o,H b=some o->yt o->H' b=some o)->Q .non H'
theorem zl (h:dH vs H Q E):l5 K (Ed Q) (start nR vs) H:=by
 obtain ⟨H0,root,a,D,n,ks,fs,rfl,⟨ts,hts,hP⟩,T,hS,hn,k⟩:=h
 have htl:ts.length=fs.length:=hP.length
 have ha:SqL K H a (ts.map V.ref):=SqL.of hts
 have nl:∀ xs,yt (.lst xs):=fun xs kvs q=>by cases q
 have nt:∀ xs,yt (.tup xs):=fun xs kvs q=>by cases q
 unfold l5
 walk_at "x"
 refine dO (K:=K) (a:=a) (xs:=ts.map V.ref) (fun i σ H'=>∃ (D':List Int->Option Addr) (inner:Addr) (v3 v4 v5:Option V),σ = [some (.ref a),some (.ref root),some (.ref inner),v3,v4,v5]/\Trie H0 root H' D' (n+2*i) (ks++[mW (fs.take i)])/\D' (mW (fs.take i))=some inner/\bf H0 H'/\∀ b o,H b=some o->yt o->H' b=some o)
  ⟨D,root,none,none,none,rfl,T.ks (ay _) (fun p => ?_),T.root,hS,fun b o e _=>e⟩ (fun i σ H' _ ⟨_,_,_,_,_,_,_,_,_,kp⟩=>SqL.of (kp _ _ hts (nl _))) ?_ ?_
 ·constructor
  ·rintro (z|⟨q,hq,hp⟩)
   ·exact .inl z
   ·exact .inr ⟨q,aQ.mpr (.inl hq),hp⟩
  ·rintro (z|⟨q,hq,hp⟩)
   ·exact .inl z
   ·rcases aQ.mp hq with y|y
    ·exact .inr ⟨q,y,hp⟩
    ·rw [aO.mp y] at hp
     exact .inl (List.prefix_nil.mp hp)
 ·rintro i x σ H' hx ⟨D',inner,v3,v4,v5,rfl,T',hin,hS',kp⟩
  obtain ⟨t,rfl,ht⟩:=cX hx
  obtain ⟨f,hf,htf⟩:=Paired.get hP ht
  have hil:=(ak.mp hf).1
  have Pq:SqT K H' t [.int (f.value:Nat),.int (f.mask:Nat)]:=SqT.of (kp _ _ htf (nt _))
  have ep:mW (fs.take (i+1))=mW (fs.take i)++[(f.mask:Int)]++[(f.value:Int)]:=by
   unfold mW
   rw [cQ,hf,da]
   simp
  walk_at "x"
  have st1:=fun Q:VK=>xr (K:=K) (Q:=Q) (i:=(f.mask:Int)) T' hS' kp hin (by omega)
  refine ⟨(st1 (fun _ _=>True) fun _ _ _ _ _ _ _=>trivial).1,?_⟩
  walk_at "x"
  intro e he
  walk_at "x"
  refine (st1 _ ?_).2 e he
  intro D1 b H1 T1 hb hS1 kp1
  walk_at "x"
  have st2:=fun Q:VK=>xr (K:=K) (Q:=Q) (i:=(f.value:Int)) T1 hS1 kp1 hb (by omega)
  refine ⟨(st2 (fun _ _=>True) fun _ _ _ _ _ _ _=>trivial).1,?_⟩
  walk_at "x"
  intro e2 he2
  walk_at "x"
  refine (st2 _ ?_).2 e2 he2
  intro D2 c H2 T2 hc hS2 kp2
  walk_at "x"
  exact ⟨D2,c,_,_,_,rfl,by rw [ep];exact T2,by rw [ep];exact hc,hS2,kp2⟩
 ·rintro σ H' ⟨D',inner,v3,v4,v5,rfl,T',hin,hS',kp⟩
  have e:(ts.map V.ref).length=fs.length:=by rw [ab,htl]
  rw [e,a8 (ay _)] at T'
  exact k H' D' T' hS' kp
def Ab (m v:Int) (f:Field):Prop:=Builtin.bitAnd m (f.mask:Int)=m/\Builtin.bitAnd (f.value:Int) m=v
def cJ:Sp:=fun vs H Q _=>∃ (H0:Hp) (root a:Addr) (D:List Int->Option Addr) (n:Nat) (ks:List (List Int)) (as:List Addr) (j:Nat) (f:Field),vs=[.ref a,.int (f.value:Nat),.int (f.mask:Nat)]/\H a=some (.lst (as.map V.ref))/\Trie H0 root H D n ks/\ks.length<=1024/\as.Nodup /\
 (∀ x,x∈as->∃ p,D p=some x/\p.length=j) /\
 ∀ (H':Hp) (q:Addr) (as':List Addr),bf H H'->H q=none->H' q=some (.lst (as'.map V.ref))->as'.Nodup->(∀ c,c∈as'↔∃ x p m v,x∈as/\D p=some x/\D (p++[m]++[v])=some c/\Ab m v f)->Q (.ref q) H'
theorem Hg {α : Type} {l:List α} {x : α} (h:l.Nodup) (hx:x∉l):(l++[x]).Nodup:=by
 rw [List.nodup_append]
 refine ⟨h,by simp,fun a ha b hb => ?_⟩
 rw [aO.mp hb]
 intro e
 exact hx (by rw [<-e];exact ha)
theorem FK {α : Type} {l:List α} (h:l.Nodup) {i j:Nat} {x : α} (hi:l[i]? = some x) (hj:l[j]? = some x):i=j:=by
 obtain ⟨h1,e1⟩:=ak.mp hi
 exact (List.getElem?_inj h1 h).mp (hi.trans hj.symm)
theorem Trie.few {H0 H:Hp} {root:Addr} {D:List Int->Option Addr} {n:Nat} {ks:List (List Int)} (T:Trie H0 root H D n ks) {l:List Addr} {j:Nat} (hl:l.Nodup) (hj:0<j) (h:∀ c,c∈l->∃ p,D p=some c/\p.length=j):l.length<=ks.length:=by
 have:=we (l:=l.map some) (t:=ks.map fun q=>D (q.take j)) ?_ ?_
 ·rw [ab,ab] at this
  exact this
 ·unfold List.Nodup at hl ⊢
  rw [List.pairwise_map]
  exact hl.imp fun h e=>h (ax e)
 ·intro x hx
  obtain ⟨c,hc,rfl⟩:=bx.mp hx
  obtain ⟨p,h1,h2⟩:=h c hc
  rcases (T.dom p).mp ⟨c,h1⟩ with z|⟨q,hq,hp⟩
  ·rw [z] at h2
   simp at h2
   omega
  ·refine bx.mpr ⟨q,hq,?_⟩
   have:q.take j=p:=by
    rw [<-h2]
    exact (List.prefix_iff_eq_take.mp hp).symm
   show D (q.take j)=some c
   rw [this]
   exact h1
theorem uG (h:cJ vs H Q E):jn K (Ed Q) (start j4 vs) H:=by
 obtain ⟨H0,root,a,D,n,ks,as,j,f,rfl,ha,T,hks,hnd,Rw,k⟩:=h
 have hz:=sizeLine_eq
 unfold jn
 walk_at "x"
 refine ⟨aT _,fun q hq => ?_⟩
 have ha0:SqL K (upd H q (.lst [])) a (as.map V.ref):=fe (SqL.of ha) hq
 walk_at "x"
 refine dO (K:=K) (a:=a) (xs:=as.map V.ref) (fun i σ H'=>∃ (found:List Addr) (v4 v5 v6:Option V),σ = [some (.ref a),some (.int (f.value:Nat)),some (.int (f.mask:Nat)),some (.ref q),v4,v5,v6]/\bf H H'/\H' q=some (.lst (found.map V.ref))/\found.Nodup /\
  ∀ c,c∈found↔∃ l x p m v,l<i/\as[l]? = some x/\D p=some x/\D (p++[m]++[v])=some c/\Ab m v f)
  ⟨[],none,none,none,rfl,eY (bf.refl H) hq,aw,ff,fun c=>⟨fun h=>(by cases h),fun ⟨l,_,_,_,_,h,_⟩=>absurd h (Nat.not_lt_zero _)⟩⟩ (fun i σ H' _ ⟨_,_,_,_,_,hS,_⟩=>SqL.of (hS _ _ ha)) ?_ ?_
 ·rintro i x σ H' hx ⟨found,v4,v5,v6,rfl,hS,hql,hfn,hfc⟩
  obtain ⟨xa,rfl,hxa⟩:=cX hx
  obtain ⟨p,hp,hpj⟩:=Rw xa (aJ hxa)
  obtain ⟨kvs,hk,nd,hl,h1,h2⟩:=T.dic p xa hp
  have hk':=hS _ _ hk
  have nqx:q≠xa:=bR hql hk' (by intro z;cases z)
  walk_at "x"
  refine ⟨xa,.dK kvs,hk',trivial,fun od => ?_⟩
  have kp1:∀ b o,H b=some o->b≠xa->upd H' xa (.frz od (.dK kvs)) b=some o:=fun b o e hb=>by rw [au hb];exact hS b o e
  have hf1:upd H' xa (.frz od (.dK kvs)) xa=some (.frz od (.dK kvs)):=aw
  have hq1:upd H' xa (.frz od (.dK kvs)) q=some (.lst (found.map V.ref)):=by rw [au nqx];exact hql
  generalize upd H' xa (.frz od (.dK kvs))=H1 at kp1 hf1 hq1 ⊢
  walk_at "x"
  unfold Hs
  walk_at "x"
  refine ⟨xa,od,kvs,rfl,hf1,?_⟩
  refine o7 (J:=Iti xa od kvs) (n:=kvs.length) (fun t σ H2=>∃ (fd:List Addr) (v5 v6:Option V),σ = [some (.ref a),some (.int (f.value:Nat)),some (.int (f.mask:Nat)),some (.ref q),some (.ref xa),v5,v6]/\(∀ b o,H b=some o->b≠xa->H2 b=some o)/\H2 xa=some (.frz od (.dK kvs))/\H2 q=some (.lst (fd.map V.ref))/\fd.Nodup /\
   ∀ c,c∈fd↔(∃ l x p m v,l<i/\as[l]? = some x/\D p=some x/\D (p++[m]++[v])=some c/\Ab m v f)\/∃ s m v b,s<t/\kvs[s]? = some (Sum.inl m,V.ref b)/\D (p++[m]++[v])=some c/\Ab m v f)
   ⟨found,v5,v6,rfl,kp1,hf1,hq1,hfn,fun c=>(hfc c).trans ⟨.inl,fun h=>h.elim id fun ⟨_,_,_,_,h,_⟩=>absurd h (Nat.not_lt_zero _)⟩⟩ (fun t σ H2 ht ⟨_,_,_,_,_,hf,_⟩=>⟨hf,ht⟩) (fun σ H2 ⟨_,_,_,_,_,hf,_⟩=>⟨hf,ay _⟩) ?_ ?_
  ·rintro t y σ H2 H3 ht ⟨fd,w5,w6,rfl,kp2,hf2,hq2,hdn,hdc⟩ ⟨U,ky,vv,hky,rfl,hU,rfl⟩
   have LD:=yS nd (aJ hky)
   obtain ⟨m,b,rfl,rfl,hb⟩:=h1 ky vv LD
   have hUs:SqT K (upd H2 U (.tup [kV (Sum.inl m),.ref b])) U [.int m,.ref b]:=SqT.of aw
   obtain ⟨kvb,hkb,ndb,hlb,b1,b2⟩:=T.dic _ b hb
   have nbx:b≠xa:=fun z=>by
    have:=T.inj _ _ _ hb (by rw [z];exact hp)
    have:=congrArg List.length this
    simp at this
   have S5:upd H2 U (.tup [kV (Sum.inl m),.ref b]) b=some (.dK kvb):=by
    have:=kp2 _ _ hkb nbx
    rw [au (az this hU)]
    exact this
   have hq3:upd H2 U (.tup [kV (Sum.inl m),.ref b]) q=some (.lst (fd.map V.ref)):=by rw [au (az hq2 hU)];exact hq2
   have hf3:upd H2 U (.tup [kV (Sum.inl m),.ref b]) xa=some (.frz od (.dK kvs)):=by rw [au (az hf2 hU)];exact hf2
   have kp3:∀ b' o,H b'=some o->b'≠xa->upd H2 U (.tup [kV (Sum.inl m),.ref b]) b'=some o:=fun b' o e hb=>by rw [au (az (kp2 b' o e hb) hU)];exact kp2 b' o e hb
   generalize upd H2 U (.tup [kV (Sum.inl m),.ref b])=H3 at hUs S5 hq3 hf3 kp3 ⊢
   have oR:(∀ v c,D (p++[m]++[v])=some c->¬Ab m v f)->∀ c,c∈fd↔(∃ l x p m v,l<i/\as[l]? = some x/\D p=some x/\D (p++[m]++[v])=some c/\Ab m v f)\/∃ s m v b,s<t+1/\kvs[s]? = some (Sum.inl m,V.ref b)/\D (p++[m]++[v])=some c/\Ab m v f:=fun hno c=>by
    rw [hdc c]
    constructor
    ·rintro (z|⟨s,m',v,b',z1,z2⟩)
     ·exact .inl z
     ·exact .inr ⟨s,m',v,b',by omega,z2⟩
    ·rintro (z|⟨s,m',v,b',z1,z2,z3,z4⟩)
     ·exact .inl z
     ·rcases aZ s t with y|y
      ·exact .inr ⟨s,m',v,b',y,z2,z3,z4⟩
      ·have:s=t:=by omega
       subst this
       rw [hky] at z2
       cases z2
       exact (hno v c z3 z4).elim
   by_cases c1:Builtin.bitAnd m (f.mask:Int)=m
   ·have LJ:decide (Builtin.bitAnd m ((f.mask:Nat):Int)=m)=true:=decide_eq_true c1
    cases hvb:b0 kvb (Sum.inl (Builtin.bitAnd (f.value:Int) m)) with
    |none =>
     walk_at "x"
     rw [hvb]
     walk_at "x"
     refine ⟨fd,_,_,rfl,kp3,hf3,hq3,hdn,oR fun v c hv hc => ?_⟩
     have:=b2 v c hv
     rw [<-hc.2,hvb] at this
     cases this
    |some w =>
     obtain ⟨v,c,e1,e2,e3⟩:=b1 _ w hvb
     have e1:Builtin.bitAnd (f.value:Int) m=v:=Sum.inl.inj e1
     subst e2
     walk_at "x"
     rw [hvb]
     walk_at "x"
     have hcn:c∉fd:=fun hc=>by
      rcases (hdc c).mp hc with ⟨l,x',p',m',v',z1,z2,z3,z4,z5⟩|⟨s,m',v',b',z1,z2,z3,z4⟩
      ·have ep:=T.inj _ _ _ z4 e3
       have ep:p'++[m',v']=p++[m,v]:=by simpa using ep
       have ep':p'=p:=(kR ep rfl).1
       rw [ep',hp] at z3
       cases z3
       have:=FK hnd z2 hxa
       omega
      ·have ep:=T.inj _ _ _ z3 e3
       have ep:p++[m',v']=p++[m,v]:=by simpa using ep
       have em:m'=m:=by
        have:=(kR ep rfl).2
        simp at this
        exact this.1
       subst em
       have:s=t:=by
        have h3:(kvs.map (·.1))[s]? = some (Sum.inl m'):=by rw [a9,z2];rfl
        have h4:(kvs.map (·.1))[t]? = some (Sum.inl m'):=by rw [a9,hky];rfl
        exact FK nd h3 h4
       omega
     have TQ:fd.length<=ks.length:=T.few (j:=j+2) hdn (by omega) fun c' hc'=>by
      rcases (hdc c').mp hc' with ⟨l,x',p',m',v',z1,z2,z3,z4,z5⟩|⟨s,m',v',b',z1,z2,z3,z4⟩
      ·obtain ⟨p'',y1,y2⟩:=Rw x' (aJ z2)
       have:=T.inj _ _ _ z3 y1
       subst this
       exact ⟨_,z4,by simp;omega⟩
      ·exact ⟨_,z3,by simp;omega⟩
     refine eT hq3 (by rw [ab];omega) ?_
     refine ⟨fd++[c],_,_,rfl,fun b' o e hb => ?_,?_,by rw [aw,bt];rfl,Hg hdn hcn,fun c' => ?_⟩
     ·have nqb:b'≠q:=az e hq
      rw [au nqb]
      exact kp3 b' o e hb
     ·rw [au (Ne.symm nqx)]
      exact hf3
     ·rw [aQ,hdc c',aO]
      constructor
      ·rintro ((z|⟨s,m',v',b',z1,z2⟩)|z)
       ·exact .inl z
       ·exact .inr ⟨s,m',v',b',by omega,z2⟩
       ·subst z
        exact .inr ⟨t,m,v,b,fL _,hky,e3,c1,e1⟩
      ·rintro (z|⟨s,m',v',b',z1,z2,z3,z4⟩)
       ·exact .inl (.inl z)
       ·rcases aZ s t with y|y
        ·exact .inl (.inr ⟨s,m',v',b',y,z2,z3,z4⟩)
        ·have:s=t:=by omega
         subst this
         rw [hky] at z2
         cases z2
         right
         have ev:v'=v:=z4.2.symm.trans e1
         rw [ev,e3] at z3
         exact (ax z3).symm
   ·have LJ:decide (Builtin.bitAnd m ((f.mask:Nat):Int)=m)=false:=decide_eq_false c1
    walk_at "x"
    exact ⟨fd,_,_,rfl,kp3,hf3,hq3,hdn,oR fun v c _ hc=>c1 hc.1⟩
  ·rintro σ H2 ⟨fd,w5,w6,rfl,kp2,hf2,hq2,hdn,hdc⟩
   refine ⟨hf2,fd,_,_,_,rfl,fun b o e => ?_,by rw [au nqx];exact hq2,hdn,fun c => ?_⟩
   ·by_cases z:b=xa
    ·rw [z,aw,<-hk,<-z]
     exact e
    ·rw [au z]
     exact kp2 b o e z
   ·rw [hdc c]
    constructor
    ·rintro (⟨l,x',p',m',v',z1,z2⟩|⟨s,m',v',b',z1,z2,z3,z4⟩)
     ·exact ⟨l,x',p',m',v',by omega,z2⟩
     ·exact ⟨i,xa,p,m',v',fL _,hxa,hp,z3,z4⟩
    ·rintro ⟨l,x',p',m',v',z1,z2,z3,z4,z5⟩
     rcases aZ l i with y|y
     ·exact .inl ⟨l,x',p',m',v',y,z2,z3,z4,z5⟩
     ·have:l=i:=by omega
      subst this
      rw [hxa] at z2
      cases z2
      have:=T.inj _ _ _ z3 hp
      subst this
      obtain ⟨b',hb'⟩:∃ b',D (p'++[m'])=some b':=(T.dom _).mpr (by
       rcases (T.dom _).mp ⟨c,z4⟩ with w|⟨r,hr,hw⟩
       ·simp at w
       ·exact .inr ⟨r,hr,List.IsPrefix.trans (jd _ _) hw⟩)
      obtain ⟨s,hs⟩:=cH.mp (zN (h2 m' b' hb'))
      exact .inr ⟨s,m',v',b',(ak.mp hs).1,hs,z4,z5⟩
 ·rintro σ H' ⟨found,v4,v5,v6,rfl,hS,hql,hfn,hfc⟩
  walk_at "x"
  refine k H' q found hS hq hql hfn fun c => ?_
  rw [hfc c]
  constructor
  ·rintro ⟨l,x',p',m',v',z1,z2,z3⟩
   exact ⟨x',p',m',v',aJ z2,z3⟩
  ·rintro ⟨x',p',m',v',z2,z3⟩
   obtain ⟨l,hl⟩:=cH.mp z2
   exact ⟨l,x',p',m',v',by rw [ab];exact (ak.mp hl).1,hl,z3⟩
end
section
variable {K:Frag} {C:CC} {vs:List V} {H:Hp} {Q:VK} {E:XK}
open Vbcnan (State Group Part Rule Field block coverOf)
def lB (ps:List (Int×Int)):List Int:=ps.flatMap fun p=>[p.1,p.2]
theorem jY (ps:List (Int×Int)):(lB ps).length=2*ps.length:=by
 induction ps with
 |nil=>rfl
 |cons p ps ih =>
  show ([p.1,p.2]++lB ps).length=_
  rw [aG,ih]
  show 2+2*ps.length=2*(ps.length+1)
  omega
theorem z6 (ps:List (Int×Int)) (m v:Int):lB (ps++[(m,v)])=lB ps++[m]++[v]:=by
 unfold lB
 rw [da]
 simp
def NS (ps:List (Int×Int)) (fs:List Field):Prop:=Paired (fun p f=>Ab p.1 p.2 f) ps fs
def eK:Sp:=fun vs H Q _=>∃ (H0:Hp) (root a:Addr) (D:List Int->Option Addr) (n:Nat) (ks:List (List Int)) (fs:List Field),vs=[.ref a,.ref root]/\LsR tP H a fs/\Trie H0 root H D n ks/\ks.length<=1024 /\
 ∀ (H':Hp) (b:Bool),bf H H'->(b=true↔∃ ps c,D (lB ps)=some c/\NS ps fs)->Q (.bl b) H'
theorem Bp (h:eK vs H Q E):nq K cJ (Ed Q) (start pF vs) H:=by
 obtain ⟨H0,root,a,D,n,ks,fs,rfl,⟨ts,hts,hP⟩,T,hks,k⟩:=h
 have hz:=sizeLine_eq
 have htl:ts.length=fs.length:=hP.length
 unfold nq
 walk_at "x"
 refine ⟨by show 1<=sizeLine;omega,fun fa hfa => ?_⟩
 have ha0:SqL K (upd H fa (.lst [.ref root])) a (ts.map V.ref):=fe (SqL.of hts) hfa
 walk_at "x"
 refine dO (K:=K) (a:=a) (xs:=ts.map V.ref) (fun i σ H'=>∃ (as:List Addr) (fa:Addr) (v3 v4:Option V),σ = [some (.ref a),some (.ref root),some (.ref fa),v3,v4]/\bf H H'/\H' fa=some (.lst (as.map V.ref))/\as.Nodup/\∀ c,c∈as↔∃ ps,D (lB ps)=some c/\NS ps (fs.take i))
  ⟨[root],fa,none,none,rfl,eY (bf.refl H) hfa,aw,by simp,fun c => ?_⟩ (fun i σ H' _ ⟨_,_,_,_,_,hS,_⟩=>SqL.of (hS _ _ hts)) ?_ ?_
 ·rw [aO]
  constructor
  ·rintro rfl
   exact ⟨[],T.root,.nil⟩
  ·rintro ⟨ps,h1,h2⟩
   cases h2
   have:D []=some c:=h1
   rw [T.root] at this
   exact (ax this).symm
 ·rintro i x σ H' hx ⟨as,fa,v3,v4,rfl,hS,hfl,hnd,hch⟩
  obtain ⟨t,rfl,ht⟩:=cX hx
  obtain ⟨f,hf,htf⟩:=Paired.get hP ht
  have hil:=(ak.mp hf).1
  have Pq:SqT K H' t [.int (f.value:Nat),.int (f.mask:Nat)]:=SqT.of (hS _ _ htf)
  have et:fs.take (i+1)=fs.take i++[f]:=by rw [cQ,hf];rfl
  walk_at "x"
  refine ⟨H0,root,fa,D,n,ks,as,2*i,f,rfl,hfl,T.same fun b kvs e=>hS _ _ e,hks,hnd,fun x hx => ?_,fun H2 q as' hS2 hq hql SW To => ?_⟩
  ·obtain ⟨ps,h1,h2⟩:=(hch x).mp hx
   refine ⟨_,h1,?_⟩
   rw [jY]
   have:ps.length=(fs.take i).length:=h2.length
   rw [bL] at this
   omega
  ·walk_at "x"
   refine ⟨as',q,_,_,rfl,hS.trans hS2,hql,SW,fun c => ?_⟩
   rw [To c,et]
   constructor
   ·rintro ⟨x,p,m,v,h1,h2,h3,h4⟩
    obtain ⟨ps,h5,h6⟩:=(hch x).mp h1
    have:=T.inj _ _ _ h2 h5
    subst this
    exact ⟨ps++[(m,v)],by rw [z6];exact h3,Paired.snoc (R:=fun (p:Int×Int) (f:Field)=>Ab p.1 p.2 f) (a:=(m,v)) (b:=f) h4 h6⟩
   ·rintro ⟨ps,h1,h2⟩
    obtain ⟨ps',⟨m,v⟩,rfl,h3,h4⟩:=Paired.GF h2
    rw [z6] at h1
    obtain ⟨x,hx⟩:∃ x,D (lB ps')=some x:=(T.dom _).mpr (by
     rcases (T.dom _).mp ⟨c,h1⟩ with w|⟨r,hr,hw⟩
     ·simp at w
     ·refine .inr ⟨r,hr,List.IsPrefix.trans ?_ hw⟩
      rw [di]
      exact jd _ _)
    exact ⟨x,lB ps',m,v,(hch x).mpr ⟨ps',hx,h3⟩,hx,h1,h4⟩
 ·rintro σ H' ⟨as,fa,v3,v4,rfl,hS,hfl,hnd,hch⟩
  rw [a8 (by rw [ab];omega)] at hch
  have hfs:SqL K H' fa (as.map V.ref):=SqL.of hfl
  walk_at "x"
  refine k H' _ hS ?_
  rw [decide_eq_true_iff,ab]
  constructor
  ·intro h
   cases as with
   |nil=>simp at h
   |cons c as =>
    obtain ⟨ps,h1,h2⟩:=(hch c).mp (ae.mpr (.inl rfl))
    exact ⟨ps,c,h1,h2⟩
  ·rintro ⟨ps,c,h1,h2⟩
   have:=List.length_pos_of_mem ((hch c).mpr ⟨ps,h1,h2⟩)
   omega
theorem vc {f g:Field}:Ab (f.mask:Int) (f.value:Int) g↔f.covers g=true:=by
 unfold Ab Vbcnan.Field.covers
 rw [bitAnd_pp (by omega) (by omega),bitAnd_pp (by omega) (by omega),aD,aD,aD,aE,beq_iff_eq,beq_iff_eq]
 constructor
 ·rintro ⟨h1,h2⟩
  exact ⟨by omega,by omega⟩
 ·rintro ⟨h1,h2⟩
  exact ⟨by omega,by omega⟩
def Ha (r:Vbcnan.Row):List (Int×Int):=(eC r).map fun f=>((f.mask:Int),(f.value:Int))
theorem FF (r:Vbcnan.Row):lB (Ha r)=mW (eC r):=rfl
theorem Gf {q r:Vbcnan.Row}:NS (Ha q) (eC r)↔q.covers r=true:=by
 unfold Vbcnan.Row.covers
 rw [aE,aE,aE,<-vc,<-vc,<-vc,<-vc]
 constructor
 ·intro h
  cases h with
  |cons h1 h =>
   cases h with
   |cons h2 h =>
    cases h with
    |cons h3 h =>
     cases h with
     |cons h4 h=>exact ⟨h1,h2,h3,h4⟩
 ·rintro ⟨h1,h2,h3,h4⟩
  exact .cons h1 (.cons h2 (.cons h3 (.cons h4 .nil)))
theorem CZ:∀ {ps qs:List (Int×Int)},lB ps=lB qs->ps=qs
 | [],[],_=>rfl
 | [],q::qs,h=>by
  have:=congrArg List.length h
  rw [jY,jY] at this
  simp at this
 |p::ps,[],h=>by
  have:=congrArg List.length h
  rw [jY,jY] at this
  simp at this
 |p::ps,q::qs,h=>by
  have h:p.1::p.2::lB ps=q.1::q.2::lB qs:=h
  injection h with h1 h2
  injection h2 with h2 h3
  rw [CZ h3,Prod.ext h1 h2]
theorem Gb {H0 H:Hp} {root:Addr} {D:List Int->Option Addr} {n:Nat} {kept:List Vbcnan.Row} (T:Trie H0 root H D n (kept.map fun r=>mW (eC r))) (r:Vbcnan.Row) :
 (∃ ps c,D (lB ps)=some c/\NS ps (eC r))↔(kept.any fun q=>q.covers r)=true:=by
 rw [pO]
 constructor
 ·rintro ⟨ps,c,h1,h2⟩
  have hl:ps.length=4:=h2.length
  rcases (T.dom _).mp ⟨c,h1⟩ with w|⟨q,hq,hw⟩
  ·have:=congrArg List.length w
   rw [jY,hl] at this
   simp at this
  ·obtain ⟨q',hq',rfl⟩:=bx.mp hq
   have e:lB ps=mW (eC q'):=by
    refine List.IsPrefix.eq_of_length hw ?_
    rw [jY,hl]
    rfl
   rw [<-FF] at e
   have:=CZ e
   rw [this] at h2
   exact ⟨q',hq',Gf.mp h2⟩
 ·rintro ⟨q,hq,hc⟩
  obtain ⟨c,hc'⟩:=(T.dom (mW (eC q))).mpr (.inr ⟨_,bx.mpr ⟨q,hq,rfl⟩,List.prefix_rfl⟩)
  exact ⟨Ha q,c,hc',Gf.mpr hc⟩
def lD:Sp:=fun vs H Q _=>∃ (a:Addr) (rows:List Vbcnan.Row) (H0:Hp),vs=[.ref a]/\LsF g6 H0 H a rows/\(∀ r,r∈rows->dP r)/\rows.length<=1024/\∀ H' p,bf H H'->H p=none->LsF g6 H0 H' p (Vbcnan.thin [] rows)->Q (.ref p) H'
theorem MI (h:lD vs H Q E):Dk K (bT K) eK dH (Ed Q) (start Ib vs) H:=by
 obtain ⟨a,rows,H0,rfl,⟨rs,hrs,hR⟩,hok,hlen,k⟩:=h
 have hz:=sizeLine_eq
 have nl:∀ xs,yt (.lst xs):=fun xs kvs q=>by cases q
 have nt:∀ xs,yt (.tup xs):=fun xs kvs q=>by cases q
 unfold Dk
 walk_at "x"
 refine ⟨aT _,fun p hp => ?_⟩
 walk_at "x"
 intro root hr
 have sm1:=br (o:=.lst []) (bf.refl H) hp
 have hr0:H root=none:=sm1.free hr
 have sm2:=br (o:=.dK []) sm1 hr
 have hpl:upd (upd H p (.lst [])) root (.dK []) p=some (.lst []):=by rw [au (az aw hr),aw]
 have hrl:upd (upd H p (.lst [])) root (.dK []) root=some (.dK []):=aw
 generalize upd (upd H p (.lst [])) root (.dK [])=H1 at sm2 hpl hrl ⊢
 have ha1:SqL K H1 a (rs.map V.ref):=SqL.of (sm2 _ _ hrs)
 walk_at "x"
 refine dO (K:=K) (a:=a) (xs:=rs.map V.ref) (fun i σ H'=>∃ (kept:List Vbcnan.Row) (ts:List Addr) (D:List Int->Option Addr) (v3 v4:Option V),σ = [some (.ref a),some (.ref p),some (.ref root),v3,v4]/\bf H H'/\H' p=some (.lst (ts.map V.ref))/\Paired (fun t x=>H0 t=none/\H' t=some (.tup (g6 x))) ts kept /\
  Trie H root H' D (8*kept.length) (kept.map fun r=>mW (eC r))/\kept.length<=i/\Vbcnan.thin [] rows=kept++Vbcnan.thin kept (rows.drop i))
  ⟨[],[],_,none,none,rfl,sm2,hpl,.nil,Trie.new sm2 hr0 hrl,aT _,rfl⟩ (fun i σ H' _ ⟨_,_,_,_,_,_,hS,_⟩=>SqL.of (hS _ _ hrs)) ?_ ?_
 ·rintro i x σ H' hx ⟨kept,ts,D,v3,v4,rfl,hS,hp',hP,T,hkl,hth⟩
  obtain ⟨t,rfl,ht⟩:=cX hx
  obtain ⟨r,hrr,hr0,htr⟩:=Paired.get hR ht
  have hil:=(ak.mp hrr).1
  have FY:dP r:=hok r (aJ hrr)
  have htl:ts.length=kept.length:=hP.length
  rw [Js hrr] at hth
  walk_at "x"
  refine ⟨t,r,rfl,SqT.of (hS _ _ htr),FY,fun H2 fa sm hfa hF => ?_⟩
  have T2:Trie H root H2 D (8*kept.length) (kept.map fun r=>mW (eC r)):=T.same fun b kvs e=>sm _ _ e
  walk_at "x"
  refine ⟨H,root,fa,D,8*kept.length,_,eC r,rfl,hF.r,T2,by rw [ab];omega,fun H3 b sm3 hb => ?_⟩
  rw [Gb T2 r] at hb
  have T3:Trie H root H3 D (8*kept.length) (kept.map fun r=>mW (eC r)):=T2.same fun b kvs e=>sm3 _ _ e
  have OS:=sm.trans sm3
  have hp3:=OS _ _ hp'
  have hP3:Paired (fun t x=>H0 t=none/\H3 t=some (.tup (g6 x))) ts kept:=Paired.imp (fun t x ⟨y,z⟩=>⟨y,OS _ _ z⟩) hP
  have hS3:=hS.trans OS
  walk_at "x"
  cases b with
  |true =>
   rw [if_pos (hb.mp rfl)] at hth
   walk_at "x"
   exact ⟨kept,ts,D,_,_,rfl,hS3,hp3,hP3,T3,by omega,hth⟩
  |false =>
   have hnc:¬(kept.any fun q=>q.covers r)=true:=fun q=>by
    have:=hb.mpr q
    cases this
   rw [if_neg hnc] at hth
   walk_at "x"
   refine eT hp3 (by rw [ab];omega) ?_
   have hFr:LsR tP H3 fa (eC r):=hF.r.same sm3
   obtain ⟨us,hus,hPu⟩:=hFr
   have hH4:∀ b o,H3 b=some o->b≠p->upd H3 p (.lst (ts.map V.ref++[.ref t])) b=some o:=fun b o e hb=>by rw [au hb];exact e
   have nfp:fa≠p:=fun e=>by rw [e,hp'] at hfa;cases hfa
   have hp4:upd H3 p (.lst (ts.map V.ref++[.ref t])) p=some (.lst ((ts++[t]).map V.ref)):=by rw [aw,bt];rfl
   have T4:Trie H root (upd H3 p (.lst (ts.map V.ref++[.ref t]))) D (8*kept.length) (kept.map fun r=>mW (eC r)):=T3.same fun b kvs e=>hH4 _ _ e (bR e hp3 (by intro z;cases z))
   have hS4:bf H (upd H3 p (.lst (ts.map V.ref++[.ref t]))):=eY hS3 hp
   have hF4:LsR tP (upd H3 p (.lst (ts.map V.ref++[.ref t]))) fa (eC r):=⟨us,hH4 _ _ hus nfp,Paired.imp (fun t x z=>hH4 _ _ z (bR z hp3 (by intro z;cases z))) hPu⟩
   have hP4:Paired (fun u x=>H0 u=none/\upd H3 p (.lst (ts.map V.ref++[.ref t])) u=some (.tup (g6 x))) (ts++[t]) (kept++[r]) :=
    Paired.snoc ⟨hr0,hS4 _ _ htr⟩ (Paired.imp (fun u x ⟨y,z⟩=>⟨y,hH4 _ _ z (bR z hp3 (by intro z;cases z))⟩) hP3)
   generalize upd H3 p (.lst (ts.map V.ref++[.ref t]))=H4 at hp4 T4 hS4 hF4 hP4 ⊢
   walk_at "x"
   refine ⟨H,root,fa,D,8*kept.length,_,eC r,rfl,hF4,T4,hS4,by show 8*kept.length+2*4<sizeLine;omega,fun H5 D5 T5 hS5 kp5 => ?_⟩
   refine ⟨kept++[r],ts++[t],D5,_,_,rfl,hS5,kp5 _ _ hp4 (nl _),Paired.imp (fun t x ⟨y,z⟩=>⟨y,kp5 _ _ z (nt _)⟩) hP4,?_,by rw [aG];simp;omega,by rw [hth];simp⟩
   rw [bt,aG]
   exact T5
 ·rintro σ H' ⟨kept,ts,D,v3,v4,rfl,hS,hp',hP,T,hkl,hth⟩
  have hrl:rs.length=rows.length:=hR.length
  rw [c7 (by rw [ab];omega)] at hth
  have hth:Vbcnan.thin [] rows=kept++[]:=hth
  rw [cS] at hth
  walk_at "x"
  exact k H' p hS hp ⟨ts,hp',by rw [hth];exact hP⟩
end
section
variable {K:Frag} {C:CC} {vs:List V} {H:Hp} {Q:VK} {E:XK}
open Vbcnan (State Group Part Rule)
def eW (C:CC) (f:Int->Vbcnan.Call):Sp:=fun vs H Q _=>∃ (s:State) (A:SA) (id:Int),vs=[.ref A.sw,.int id]/\bG C H s A/\Ans C H (Vbcnan.doing s (f id)).1 A (Vbcnan.doing s (f id)).2 Q
def gf (C:CC) (f:Int->Int->Vbcnan.Call):Sp:=fun vs H Q _=>∃ (s:State) (A:SA) (id a:Int),vs=[.ref A.sw,.int id,.int a]/\bG C H s A/\Ans C H (Vbcnan.doing s (f id a)).1 A (Vbcnan.doing s (f id a)).2 Q
theorem Ans.after {C:CC} {H H1:Hp} {s':State} {A A1:SA} {ans:List Int} {Q:VK} (h:Ans C H s' A ans Q) (L:Left H H1 A A1):Ans C H1 s' A1 ans Q:=fun H' A' p hA hL hp hq =>
 h H' A' p hA (L.trans hL) (L.dom p hp) hq
theorem uH (T:TxS K C) (h:eW C .nogroup vs H Q E):jo K C.sw (fN C) (fO C) (b7 C) (Ed Q) (start j5 vs) H:=by
 obtain ⟨s,A,id,rfl,hA,k⟩:=h
 obtain ⟨tc,n1,n2,n3,n4,n5,TT⟩:=T
 have hz:=sizeLine_eq
 have h1:=hA.ins
 have hdg:=hA.dg
 have g1:=hA.df
 have e:Vbcnan.doing s (.nogroup id)=if Vbcnan.known s id=false then (s,[-1]) else if ((s.rules.any fun r=>Vbcnan.usesGroup id.toNat r) || s.groups.any fun g=>Vbcnan.refers id.toNat g.parts)=true then (s,[-2]) else ({s with groups:=s.groups.filter fun g=>g.id != id.toNat},[0]):=rfl
 unfold jo
 walk_at "x"
 rw [hA.has id]
 cases hk:Vbcnan.known s id with
 |false =>
  rw [e,if_pos hk] at k
  walk_at "x"
  exact k.fin hA
 |true =>
  rw [e,if_neg (by rw [hk];exact fun q=>nomatch q)] at k
  obtain ⟨g,hg,eg⟩:=(fg hA.wg id).mp hk
  subst eg
  rw [aD] at k
  walk_at "x"
  refine ⟨s,A,g.id,rfl,hA,fun p1 l1 hp1 => ?_⟩
  have sm1:=br (o:=.lst l1) (bf.refl H) hp1
  have hA1:bG C (upd H p1 (.lst l1)) s A:=hA.same fun b o _ q=>sm1 b o q
  generalize upd H p1 (.lst l1)=H1 at sm1 hA1 ⊢
  walk_at "x"
  cases hr:(s.rules.any fun r=>Vbcnan.usesGroup g.id r) with
  |true =>
   rw [hr,if_pos (by rfl)] at k
   walk_at "x"
   exact (k.more sm1).fin hA1
  |false =>
   rw [hr] at k
   walk_at "x"
   refine ⟨s,A,g.id,rfl,hA1,fun H2 sm2 => ?_⟩
   have hA2:bG C H2 s A:=hA1.same fun b o _ q=>sm2 b o q
   walk_at "x"
   cases hp:(s.groups.any fun h=>Vbcnan.refers g.id h.parts) with
   |true =>
    rw [hp,if_pos (by rfl)] at k
    walk_at "x"
    exact (k.more (sm1.trans sm2)).fin hA2
   |false =>
    rw [hp,if_neg (by exact aV)] at k
    have h2:=hA2.ins
    walk_at "x"
    refine ⟨s,A,g,rfl,hA2,hg,hr,hp,fun H3 A3 hA3 hL3 => ?_⟩
    walk_at "x"
    exact ((k.more (sm1.trans sm2)).after hL3).fin hA3
theorem zq (T:TxS K C) (h:eW C .runs vs H Q E):l9 K C.sw (aA C) (fi K) (Ed Q) (start nV vs) H:=by
 obtain ⟨s,A,id,rfl,hA,k⟩:=h
 obtain ⟨tc,n1,n2,n3,n4,n5,TT⟩:=T
 have hz:=sizeLine_eq
 have h1:=hA.ins
 have hdg:=hA.dg
 have g1:=hA.df
 have e:Vbcnan.doing s (.runs id)=if Vbcnan.known s id=false then (s,[-1]) else (s,[0,((Vbcnan.runsOf s.groups id.toNat).length:Int)]++(Vbcnan.runsOf s.groups id.toNat).flatMap fun p=>[(p.1:Int),(p.2:Int)]):=rfl
 unfold l9
 walk_at "x"
 rw [hA.has id]
 cases hk:Vbcnan.known s id with
 |false =>
  rw [e,if_pos hk] at k
  walk_at "x"
  exact k.fin hA
 |true =>
  rw [e,if_neg (by rw [hk];exact fun q=>nomatch q)] at k
  obtain ⟨g,hg,eg⟩:=(fg hA.wg id).mp hk
  subst eg
  rw [aD] at k
  walk_at "x"
  refine ⟨s,A,g,rfl,hA,hg,fun H1 A1 e1 es hA1 hL1 he1 hE hel nM hKe => ?_⟩
  have er:=gq hE nM
  rw [er] at k
  have k1:=k.after hL1
  walk_at "x"
  refine ⟨e1,es,rfl,SqL.of he1,hE,by omega,fun p hp => ?_⟩
  have hpl:=f7 hE.wB
  have hfl:=wA (bp es)
  have sm:=br (o:=.lst ((gP (bp es)).map V.int)) (bf.refl H1) hp
  have hA2:bG C (upd H1 p (.lst ((gP (bp es)).map V.int))) s A1:=hA1.same fun b o _ q=>sm b o q
  have hpp:upd H1 p (.lst ((gP (bp es)).map V.int)) p=some (.lst ((gP (bp es)).map V.int)):=aw
  generalize upd H1 p (.lst ((gP (bp es)).map V.int))=H2 at sm hA2 hpp ⊢
  have hps:SqL K H2 p ((gP (bp es)).map V.int):=SqL.of hpp
  walk_at "x"
  refine yP (show Ql _ _ from ⟨by decide,by decide⟩) ?_
  walk_at "x"
  refine ⟨by show 2<=sizeLine;omega,fun p2 hp2 => ?_⟩
  rw [ab,hfl]
  have ed:((2*(bp es).length:Nat):Int) / 2=((bp es).length:Int):=by omega
  rw [ed]
  have sm2:=br (o:=.lst [.int 0,.int ((bp es).length:Int)]) (bf.refl H2) hp2
  have hA3:bG C (upd H2 p2 (.lst [.int 0,.int ((bp es).length:Int)])) s A1:=hA2.same fun b o _ q=>sm2 b o q
  have Rm:upd H2 p2 (.lst [.int 0,.int ((bp es).length:Int)]) p2=some (.lst [.int 0,.int ((bp es).length:Int)]):=aw
  have Rn:=sm2 _ _ hpp
  generalize upd H2 p2 (.lst [.int 0,.int ((bp es).length:Int)])=H3 at sm2 hA3 Rm Rn ⊢
  walk_at "x"
  refine QN Rm Rn (by rw [ab,hfl];show 2+_<=_;omega) fun p3 hp3 => ?_
  have fin:=(k1.more (sm.trans sm2)).give hA3 hp3
  rw [bt] at fin
  exact fin
theorem zo (T:TxS K C) (h:eW C .size vs H Q E):l7 K C.sw (aA C) (cz K) (Ed Q) (start nT vs) H:=by
 obtain ⟨s,A,id,rfl,hA,k⟩:=h
 obtain ⟨tc,n1,n2,n3,n4,n5,TT⟩:=T
 have hz:=sizeLine_eq
 have h1:=hA.ins
 have hdg:=hA.dg
 have g1:=hA.df
 have e:Vbcnan.doing s (.size id)=if Vbcnan.known s id=false then (s,[-1]) else (s,[(Vbcnan.sizeOf_ (Vbcnan.runsOf s.groups id.toNat):Int)]):=rfl
 unfold l7
 walk_at "x"
 rw [hA.has id]
 cases hk:Vbcnan.known s id with
 |false =>
  rw [e,if_pos hk] at k
  walk_at "x"
  exact k.fin hA
 |true =>
  rw [e,if_neg (by rw [hk];exact fun q=>nomatch q)] at k
  obtain ⟨g,hg,eg⟩:=(fg hA.wg id).mp hk
  subst eg
  rw [aD] at k
  walk_at "x"
  refine ⟨s,A,g,rfl,hA,hg,fun H1 A1 e1 es hA1 hL1 he1 hE hel nM hKe => ?_⟩
  have er:=gq hE nM
  rw [er] at k
  have k1:=k.after hL1
  walk_at "x"
  refine ⟨e1,es,rfl,SqL.of he1,hE,by omega,fun p l hp => ?_⟩
  have sm:=br (o:=.lst l) (bf.refl H1) hp
  have hA2:bG C (upd H1 p (.lst l)) s A1:=hA1.same fun b o _ q=>sm b o q
  generalize upd H1 p (.lst l)=H2 at sm hA2 ⊢
  walk_at "x"
  exact (k1.more sm).fin hA2
theorem vZ (T:TxS K C) (h:gf C .member vs H Q E):jQ K C.sw bV (aU C) (Ed Q) (start lh vs) H:=by
 obtain ⟨s,A,id,a,rfl,hA,k⟩:=h
 obtain ⟨tc,n1,n2,n3,n4,n5,TT⟩:=T
 have hz:=sizeLine_eq
 have h1:=hA.ins
 have hdg:=hA.dg
 have g1:=hA.df
 have e:Vbcnan.doing s (.member id a)=if Vbcnan.known s id=false then (s,[-1]) else if Vbcnan.isAddr a=false then (s,[-2]) else (s,[((Vbcnan.isIn s.groups id.toNat a.toNat).toNat:Int)]):=rfl
 unfold jQ
 walk_at "x"
 rw [hA.has id]
 cases hk:Vbcnan.known s id with
 |false =>
  rw [e,if_pos hk] at k
  walk_at "x"
  exact k.fin hA
 |true =>
  rw [e,if_neg (by rw [hk];exact fun q=>nomatch q)] at k
  obtain ⟨g,hg,eg⟩:=(fg hA.wg id).mp hk
  subst eg
  rw [aD] at k
  walk_at "x"
  refine ⟨a,rfl,?_⟩
  walk_at "x"
  cases hia:Vbcnan.isAddr a with
  |true =>
   rw [hia,if_neg (fun q=>nomatch q)] at k
   unfold Vbcnan.isAddr at hia
   rw [iR,decide_eq_true_iff] at hia
   obtain ⟨c1,c2⟩:=hia
   walk_at "x"
   have ea:a=((a.toNat:Nat):Int):=by omega
   rw [ea]
   refine ⟨s,A,a.toNat,rfl,hA,fun H1 d kvs sm hd hd1 qD => ?_⟩
   have hg1:=qD g hg
   have hA1:bG C H1 s A:=hA.same fun b o _ q=>sm b o q
   walk_at "x"
   cases hi:Vbcnan.isIn s.groups g.id a.toNat with
   |true =>
    rw [hi] at k
    walk_at "x"
    exact (k.more sm).fin hA1
   |false =>
    rw [hi] at k
    walk_at "x"
    exact (k.more sm).fin hA1
  |false =>
   rw [hia,if_pos rfl] at k
   walk_at "x"
   exact k.fin hA
end
section
variable {K:Frag} {C:CC} {vs:List V} {H:Hp} {Q:VK} {E:XK}
open Vbcnan (State Group Part Rule)
theorem bG.zJ {C:CC} {H:Hp} {s:State} {A:SA} (h:bG C H s A) {rs im:List Addr} {rules:List Rule} (hp:Paired (fun q r=>q∈im/\H q=some (.tup (qm r))) rs rules) (him:∀ b,b∈A.im->b∈im) (li:A.lr∉im) (hd:∀ b,b∈im->H b≠none) (wr:WfR {s with rules:=rules}) :
 bG C (upd (upd H A.lr (.lst (rs.map V.ref))) A.sw (.ins C.sw A.dx (gO (.int (if s.on then (s.most:Int) else 0)) (.ref A.dg) (.ref A.lr) (.ref A.dk) .non))) {s with rules:=rules} {A with rs:=rs,im:=im,kt:=.non}:=by
 have ns:A.sw≠A.lr:=bR h.ins h.lr (by intro z;cases z)
 have nx:A.dx≠A.lr:=bR h.dx h.lr (by intro z;cases z)
 have nxs:A.dx≠A.sw:=bR h.dx h.ins (by intro z;cases z)
 have ng:A.dg≠A.lr:=bR h.dg h.lr (by intro z;cases z)
 have ngs:A.dg≠A.sw:=bR h.dg h.ins (by intro z;cases z)
 have nk:A.dk≠A.lr:=bR h.dk h.lr (by intro z;cases z)
 have nks:A.dk≠A.sw:=bR h.dk h.ins (by intro z;cases z)
 generalize hH:upd (upd H A.lr (.lst (rs.map V.ref))) A.sw (.ins C.sw A.dx (gO (.int (if s.on then (s.most:Int) else 0)) (.ref A.dg) (.ref A.lr) (.ref A.dk) .non))=H'
 have kp:∀ b o,H b=some o->b≠A.lr->b≠A.sw->H' b=some o:=fun b o e hb hs=>by rw [<-hH,au hs,au hb];exact e
 have kl:∀ b xs,b∈im->H b=some (HO.lst xs)->H' b=some (.lst xs):=fun b xs hb e=>kp b _ e (fun q=>li (by rw [<-q];exact hb)) (bR e h.ins (by intro z;cases z))
 have kt:∀ b xs,b∈im->H b=some (HO.tup xs)->H' b=some (.tup xs):=fun b xs hb e=>kp b _ e (fun q=>li (by rw [<-q];exact hb)) (bR e h.ins (by intro z;cases z))
 exact {h with
  ins:=by rw [<-hH];exact aw
  dx:=kp _ _ h.dx nx nxs
  dg:=kp _ _ h.dg ng ngs
  lr:=by rw [<-hH];show upd _ A.sw _ A.lr=_;rw [au ns.symm];exact aw
  dk:=kp _ _ h.dk nk nks
  li:=li
  tab:=.inl rfl
  imd:=fun b hb q=>hd b hb (by rw [<-hH] at q;exact cc (cc q))
  grp:=fun g hg=>by
   obtain ⟨a,a1,a0,qs,a2,a3⟩:=h.grp g hg
   exact ⟨a,a1,him _ a0,qs,kl _ _ (him _ a0) a2,Paired.imp (fun q p ⟨x,y⟩=>⟨him _ x,kt _ _ (him _ x) y⟩) a3⟩
  rul:=Paired.imp (fun q r ⟨x,y⟩=>⟨x,kt _ _ x y⟩) hp
  kno:=fun g hg v hv=>by
   obtain ⟨e,es,e1,e2,e3,e4⟩:=h.kno g hg v hv
   exact ⟨e,es,e1,him _ e2,kl _ _ (him _ e2) e3,e4⟩
  wr:=wr}
theorem tF {H0 H:Hp} {A:SA} {rs im:List Addr} {o o':HO} (sm:bf H0 H) (him:∀ b,b∈im->b∈A.im\/H0 b=none):Left H0 (upd (upd H A.lr o) A.sw o') A {A with rs:=rs,im:=im,kt:=.non}:=by
 refine ⟨rfl,fun b hb => ?_,fun b o e hb => ?_,fun b h=>sm.free (cc (cc h))⟩
 ·have hb:b=A.dx\/b=A.sw\/b=A.dg\/b=A.lr\/b=A.dk\/b∈im:=by simpa [SA.own,SA.mut,or_assoc] using hb
  rcases hb with rfl|rfl|rfl|rfl|rfl|q
  ·exact .inl (by simp [SA.own])
  ·exact .inl (by simp [SA.own,SA.mut])
  ·exact .inl (by simp [SA.own,SA.mut])
  ·exact .inl (by simp [SA.own,SA.mut])
  ·exact .inl (by simp [SA.own,SA.mut])
  ·rcases him b q with z|z
   ·exact .inl (by simp [SA.own,z])
   ·exact .inr z
 ·rw [au (fun q=>hb (by rw [q];simp [SA.own,SA.mut])),au (fun q=>hb (by rw [q];simp [SA.own,SA.mut]))]
  exact sm b o e
def dy (C:CC):Sp:=fun vs H Q _=>∃ (s:State) (A:SA) (i:Int),vs=[.ref A.sw,.int i]/\bG C H s A/\Q (.bl (decide (0<=i/\i<(s.rules.length:Int)))) H
theorem JF (T:TxS K C) (h:dy C vs H Q E):vI K (Ed Q) (start AN vs) H:=by
 obtain ⟨s,A,i,rfl,hA,k⟩:=h
 obtain ⟨tc,n1,n2,n3,n4,n5,TT⟩:=T
 have h1:=hA.ins
 have g1:=hA.gi
 have hls:SqL K H A.lr (A.rs.map V.ref):=SqL.of hA.lr
 have hrl:A.rs.length=s.rules.length:=hA.rul.length
 unfold vI
 by_cases c:0<=i
 ·walk_at "x"
  have:decide (i<((A.rs.map V.ref).length:Int))=decide (0<=i/\i<(s.rules.length:Int)):=by
   rw [ab,hrl]
   exact decide_eq_decide.mpr ⟨fun q=>⟨c,q⟩,fun q=>q.2⟩
  rw [this]
  exact k
 ·rw [decide_eq_false (fun q=>c q.1)] at k
  walk_at "x"
  exact k
def fS (C:CC):Sp:=fun vs H Q _=>∃ (s:State) (A:SA) (i:Int),vs=[.ref A.sw,.int i]/\bG C H s A/\Q (.bl (i == -1 || Vbcnan.known s i)) H
theorem G1 (T:TxS K C) (h:fS C vs H Q E):sI K (Ed Q) (start xf vs) H:=by
 obtain ⟨s,A,i,rfl,hA,k⟩:=h
 obtain ⟨tc,n1,n2,n3,n4,n5,TT⟩:=T
 have h1:=hA.ins
 have hdg:=hA.dg
 have g1:=hA.df
 unfold sI
 by_cases c:i=-1
 ·have:(i == -1)=true:=beq_iff_eq.mpr c
  rw [this] at k
  walk_at "x"
  exact k
 ·have:(i == -1)=false:=beq_eq_false_iff_ne.mpr c
  rw [this] at k
  walk_at "x"
  rw [hA.has i]
  exact k
def zh (b k lo hi:Int):Bool:=decide ((b=0\/b=1)/\(-1<=k/\k<=255)/\0<=lo/\lo<=hi/\hi<=65535)
def ck:Sp:=fun vs H Q _=>∃ (t:Addr) (b f u k lo hi:Int),vs=[.ref t]/\H t=some (.tup [.int b,.int f,.int u,.int k,.int lo,.int hi])/\Q (.bl (zh b k lo hi)) H
theorem rH (h:ck vs H Q E):hZ K (Ed Q) (start i4 vs) H:=by
 obtain ⟨t,b,f,u,kd,lo,hi,rfl,ht,k⟩:=h
 have hts:SqT K H t [.int b,.int f,.int u,.int kd,.int lo,.int hi]:=SqT.of ht
 unfold hZ
 have rest:∀ y:Bool,y=decide (b=0\/b=1)->(bw (lq (af 1) (lq (fR (rI0 fun i j=>.bl (decide (i<=j))) (rI0 fun i j=>.bl (decide (i<=j))) (tC (.int (-1))) (tOp (cE K) (af 0) (tC (.int 3))) (tC (.int (255)))) (oQ (rI0 fun i j=>.bl (decide (i<=j))) (rI0 fun i j=>.bl (decide (i<=j))) (rI0 fun i j=>.bl (decide (i<=j))) (tC (.int 0)) (tOp (cE K) (af 0) (tC (.int 4))) (tOp (cE K) (af 0) (tC (.int 5))) (tC (.int (65535))))))) {nx:=fun _ H'=>Q .non H',rt:=Q} [some (.ref t),some (.bl y)] H:=by
  rintro y hy
  unfold zh at k
  by_cases c0:b=0\/b=1
  ·have:y=true:=hy.trans (decide_eq_true c0)
   subst this
   by_cases c1:-1<=kd
   ·by_cases c2:kd<=255
    ·by_cases c3:0<=lo
     ·by_cases c4:lo<=hi
      ·walk_at "x"
       have:decide (hi<=65535)=decide ((b=0\/b=1)/\(-1<=kd/\kd<=255)/\0<=lo/\lo<=hi/\hi<=65535):=decide_eq_decide.mpr ⟨fun q=>⟨c0,⟨c1,c2⟩,c3,c4,q⟩,fun q=>q.2.2.2.2⟩
       rw [this]
       exact k
      ·rw [decide_eq_false (fun q=>c4 q.2.2.2.1)] at k
       walk_at "x"
       exact k
     ·rw [decide_eq_false (fun q=>c3 q.2.2.1)] at k
      walk_at "x"
      exact k
    ·rw [decide_eq_false (fun q=>c2 q.2.1.2)] at k
     walk_at "x"
     exact k
   ·rw [decide_eq_false (fun q=>c1 q.2.1.1)] at k
    walk_at "x"
    exact k
  ·have:y=false:=hy.trans (decide_eq_false c0)
   subst this
   rw [decide_eq_false (fun q=>c0 q.1)] at k
   walk_at "x"
   exact k
 generalize (bw (lq (af 1) (lq (fR (rI0 fun i j=>.bl (decide (i<=j))) (rI0 fun i j=>.bl (decide (i<=j))) (tC (.int (-1))) (tOp (cE K) (af 0) (tC (.int 3))) (tC (.int (255)))) (oQ (rI0 fun i j=>.bl (decide (i<=j))) (rI0 fun i j=>.bl (decide (i<=j))) (rI0 fun i j=>.bl (decide (i<=j))) (tC (.int 0)) (tOp (cE K) (af 0) (tC (.int 4))) (tOp (cE K) (af 0) (tC (.int 5))) (tC (.int (65535)))))))=tl at rest ⊢
 by_cases c:b=0
 ·walk_at "x"
  exact rest true (decide_eq_true (.inl c)).symm
 ·walk_at "x"
  exact rest (decide (b=1)) (decide_eq_decide.mpr ⟨fun q=>.inr q,fun q=>q.resolve_left c⟩)
theorem KQ {b f u k lo hi:Int} (hb:b=0\/b=1) (hf:f=-1\/0<=f) (hu:u=-1\/0<=u) (hk:-1<=k) (hl:0<=lo) (hh:0<=hi):qm ⟨b==1,Vbcnan.opt f,Vbcnan.opt u,Vbcnan.opt k,lo.toNat,hi.toNat⟩=[.int b,.int f,.int u,.int k,.int lo,.int hi]:=by
 have ho:∀ x:Int,(x=-1\/0<=x)->eZ (Vbcnan.opt x)=.int x:=fun x hx=>by
  unfold Vbcnan.opt
  rcases hx with rfl|h
  ·rfl
  ·rw [if_neg (by omega)]
   show V.int ((x.toNat:Nat):Int)=_
   rw [de h]
 unfold qm
 rw [ho f hf,ho u hu,ho k (by omega),de hl,de hh]
 rcases hb with rfl|rfl<;>rfl
end
section
variable {K:Frag} {C:CC} {vs:List V} {H:Hp} {Q:VK} {E:XK}
open Vbcnan (State Group Part Rule)
theorem IH {α : Type} {l:List α} {i:Nat} {x y : α} (h:y∈l.take i++x::l.drop i):y=x\/y∈l:=by
 rcases aQ.mp h with z|z
 ·exact .inr (List.mem_of_mem_take z)
 ·rcases ae.mp z with w|w
  ·exact .inl w
  ·exact .inr (List.mem_of_mem_drop w)
theorem IJ {α : Type} (l:List α) (i:Nat) (x : α):(l.take i++x::l.drop i).length=l.length+1:=by
 rw [aG,bM,bL,iz]
 omega
theorem WfR.of {s:State} {rules:List Rule} (w:WfR s) (hl:rules.length<=32) (hs:∀ r,r∈rules->r∈s.rules\/((∀ g,r.src=some g->∃ x,x∈s.groups/\x.id=g)/\(∀ g,r.dst=some g->∃ x,x∈s.groups/\x.id=g)/\(∀ k,r.kind=some k->k<=255)/\r.lo<=r.hi/\r.hi<=65535)):WfR {s with rules:=rules}:=by
 refine ⟨hl,fun r hr => ?_,fun r hr => ?_,fun r hr => ?_,fun r hr => ?_⟩
 ·rcases hs r hr with z|z
  ·exact w.src r z
  ·exact z.1
 ·rcases hs r hr with z|z
  ·exact w.dst r z
  ·exact z.2.1
 ·rcases hs r hr with z|z
  ·exact w.kind r z
  ·exact z.2.2.1
 ·rcases hs r hr with z|z
  ·exact w.port r z
  ·exact z.2.2.2
theorem ft (x lo hi:Int):Vbcnan.within x lo hi=true↔lo<=x/\x<=hi:=by
 unfold Vbcnan.within
 rw [aE,decide_eq_true_iff,decide_eq_true_iff]
theorem KR (b k lo hi:Int):(Vbcnan.within b 0 1&&(Vbcnan.within k (-1) 255&&(Vbcnan.within lo 0 65535&&(Vbcnan.within hi 0 65535&&decide (lo<=hi)))))=zh b k lo hi:=by
 unfold zh
 rw [bU,aE,aE,aE,aE,ft,ft,ft,ft,decide_eq_true_iff,decide_eq_true_iff]
 omega
theorem Ip {H:Hp} {Q:VK} {l:Addr} {xs:List V} {i:Nat} {y:V} (e:H l=some (.lst xs)) (hz:xs.length<=sizeLine) (hy:xs[i]? = some y) (h:Q y (upd H l (.lst (xs.eraseIdx i)))):DZ (.ref l) [.int (i:Int)] H Q:=by
 have hlt:=(ak.mp hy).1
 have hs:=sizeLine_eq
 have hx:ixN xs.length (i:Int)=some i:=by
  unfold ixN
  rw [if_pos (by omega),if_pos (by omega),aD]
 exact ⟨l,xs,i,i,y,rfl,rfl,e,by omega,by omega,(IK hx).1,hy,h⟩
theorem wk {α β : Type} (f : α -> β):∀ (l:List α) (i:Nat),(l.map f).eraseIdx i=(l.eraseIdx i).map f
 | [],_=>rfl
 |_::_,0=>rfl
 |x::l,i+1=>by
  show f x::(l.map f).eraseIdx i=f x::(l.eraseIdx i).map f
  rw [wk f l i]
theorem D7 {α : Type} (l:List α) (i:Nat):(l.eraseIdx i).length<=l.length:=by
 rw [List.length_eraseIdx]
 split<;>omega
def cB (C:CC):Sp:=fun vs H Q _=>∃ (s:State) (A:SA) (H0:Hp) (i:Nat) (t:Addr) (r:Rule),vs=[.ref A.sw,.int i,.ref t]/\bG C H s A/\bf H0 H/\H0 t=none/\H0 A.lr≠none/\H t=some (.tup (qm r))/\i<=s.rules.length/\WfR {s with rules:=s.rules.take i++r::s.rules.drop i} /\
 ∀ H' A',bG C H' {s with rules:=s.rules.take i++r::s.rules.drop i} A'->Left H0 H' A A'->Q .non H'
theorem tp (T:TxS K C) (h:cB C vs H Q E):iV K (Ed Q) (start jH vs) H:=by
 obtain ⟨s,A,H0,i,t,r,rfl,hA,sm,ht0,Ea,ht,hi,hwr,k⟩:=h
 obtain ⟨tc,n1,n2,n3,n4,n5,TT⟩:=T
 have hz:=sizeLine_eq
 have h1:=hA.ins
 have hlr:=hA.lr
 have g1:=hA.gi
 have hrl:A.rs.length=s.rules.length:=hA.rul.length
 have Ht:=hA.wr.few
 have ns:A.sw≠A.lr:=bR hA.ins hA.lr (by intro z;cases z)
 unfold iV
 walk_at "x"
 refine ⟨A.lr,A.rs.map V.ref,i,.ref t,rfl,rfl,hA.lr,by rw [ab];omega,by rw [ab];omega,?_⟩
 have em:(A.rs.map V.ref).take i++V.ref t::(A.rs.map V.ref).drop i=(A.rs.take i++t::A.rs.drop i).map V.ref:=by
  rw [bt,aW,xm,List.map_drop]
 rw [em]
 have h2:upd H A.lr (.lst ((A.rs.take i++t::A.rs.drop i).map V.ref)) A.sw=some (.ins C.sw A.dx (A.fs s)):=by rw [au ns];exact h1
 walk_at "x"
 refine dA h2 tc n5 (show 5<1000 by decide) ?_
 rw [lT]
 exact k _ _ (hA.zJ (rs:=A.rs.take i++t::A.rs.drop i) (im:=t::A.im) (rules:=s.rules.take i++r::s.rules.drop i)
  (Paired.append (Paired.take _ (Paired.imp (fun q r ⟨x,y⟩=>⟨ae.mpr (.inr x),y⟩) hA.rul)) (.cons ⟨ae.mpr (.inl rfl),ht⟩ (Paired.drop _ (Paired.imp (fun q r ⟨x,y⟩=>⟨ae.mpr (.inr x),y⟩) hA.rul))))
  (fun q hq=>ae.mpr (.inr hq)) (fun q=>by
    rcases ae.mp q with z|z
    ·rw [z] at Ea
     exact Ea ht0
    ·exact hA.li z) (fun b hb=>by
    rcases ae.mp hb with z|z
    ·rw [z,ht];exact fun q=>nomatch q
    ·exact hA.imd b z) hwr) (tF sm fun q hq=>by
  rcases ae.mp hq with z|z
  ·rw [z]
   exact .inr ht0
  ·exact .inl z)
def cv (C:CC):Sp:=fun vs H Q _=>∃ (s:State) (A:SA) (i:Nat),vs=[.ref A.sw,.int i]/\bG C H s A/\i<s.rules.length/\∀ H' A',bG C H' {s with rules:=s.rules.eraseIdx i} A'->Left H H' A A'->Q .non H'
theorem rO (T:TxS K C) (h:cv C vs H Q E):ij K (Ed Q) (start i9 vs) H:=by
 obtain ⟨s,A,i,rfl,hA,hi,k⟩:=h
 obtain ⟨tc,n1,n2,n3,n4,n5,TT⟩:=T
 have hz:=sizeLine_eq
 have h1:=hA.ins
 have hlr:=hA.lr
 have g1:=hA.gi
 have hrl:A.rs.length=s.rules.length:=hA.rul.length
 have Ht:=hA.wr.few
 have ns:A.sw≠A.lr:=bR hA.ins hA.lr (by intro z;cases z)
 unfold ij
 walk_at "x"
 obtain ⟨y,hy⟩:∃ y,(A.rs.map V.ref)[i]? = some y:=⟨_,aC (by rw [ab];omega)⟩
 refine Ip hA.lr (by rw [ab];omega) hy ?_
 rw [wk]
 have hle:=D7 s.rules i
 have h2:upd H A.lr (.lst ((A.rs.eraseIdx i).map V.ref)) A.sw=some (.ins C.sw A.dx (A.fs s)):=by rw [au ns];exact h1
 walk_at "x"
 refine dA h2 tc n5 (show 5<1000 by decide) ?_
 rw [lT]
 exact k _ _ (hA.zJ (rs:=A.rs.eraseIdx i) (im:=A.im) (rules:=s.rules.eraseIdx i) (Paired.erase _ hA.rul) (fun q hq=>hq) hA.li hA.imd (hA.wr.of (by omega) fun r hr=>.inl (List.mem_of_mem_eraseIdx hr))) (tF (bf.refl H) fun q hq=>.inl hq)
def cq (C:CC):Sp:=fun vs H Q _=>∃ (s:State) (A:SA) (i j:Nat) (r:Rule),vs=[.ref A.sw,.int i,.int j]/\bG C H s A/\s.rules[i]? = some r/\j<s.rules.length/\∀ H' A',bG C H' {s with rules:=(s.rules.eraseIdx i).take j++(r::(s.rules.eraseIdx i).drop j)} A'->Left H H' A A'->Q .non H'
theorem rM (T:TxS K C) (h:cq C vs H Q E):ie K (Ed Q) (start i7 vs) H:=by
 obtain ⟨s,A,i,j,r,rfl,hA,hr,hj,k⟩:=h
 obtain ⟨tc,n1,n2,n3,n4,n5,TT⟩:=T
 have hz:=sizeLine_eq
 have h1:=hA.ins
 have hlr:=hA.lr
 have g1:=hA.gi
 have hrl:A.rs.length=s.rules.length:=hA.rul.length
 have Ht:=hA.wr.few
 have ns:A.sw≠A.lr:=bR hA.ins hA.lr (by intro z;cases z)
 have hil:=(ak.mp hr).1
 obtain ⟨t,htt⟩:∃ t,A.rs[i]? = some t:=⟨_,aC (by omega)⟩
 obtain ⟨r',hr',tm,htr⟩:=Paired.get hA.rul htt
 have er:r'=r:=ax (hr'.symm.trans hr)
 subst er
 unfold ie
 walk_at "x"
 refine Ip hA.lr (by rw [ab];omega) (y:=.ref t) (by rw [a9,htt];rfl) ?_
 rw [wk]
 have hel:(A.rs.eraseIdx i).length=A.rs.length-1:=by rw [List.length_eraseIdx,if_pos (by omega)]
 have Nr:(s.rules.eraseIdx i).length=s.rules.length-1:=by rw [List.length_eraseIdx,if_pos (by omega)]
 have SX:upd H A.lr (.lst ((A.rs.eraseIdx i).map V.ref)) A.lr=some (.lst ((A.rs.eraseIdx i).map V.ref)):=aw
 have h11:upd H A.lr (.lst ((A.rs.eraseIdx i).map V.ref)) A.sw=some (.ins C.sw A.dx (A.fs s)):=by rw [au ns];exact h1
 walk_at "x"
 refine ⟨A.lr,(A.rs.eraseIdx i).map V.ref,j,.ref t,rfl,rfl,SX,by rw [ab];omega,by rw [ab];omega,?_⟩
 have em:((A.rs.eraseIdx i).map V.ref).take j++V.ref t::((A.rs.eraseIdx i).map V.ref).drop j=((A.rs.eraseIdx i).take j++t::(A.rs.eraseIdx i).drop j).map V.ref:=by
  rw [bt,aW,xm,List.map_drop]
 rw [em,gS]
 have h12:upd H A.lr (.lst (((A.rs.eraseIdx i).take j++t::(A.rs.eraseIdx i).drop j).map V.ref)) A.sw=some (.ins C.sw A.dx (A.fs s)):=by rw [au ns];exact h1
 walk_at "x"
 refine dA h12 tc n5 (show 5<1000 by decide) ?_
 rw [lT]
 refine k _ _ (hA.zJ (rs:=(A.rs.eraseIdx i).take j++t::(A.rs.eraseIdx i).drop j) (im:=A.im) (rules:=(s.rules.eraseIdx i).take j++(r'::(s.rules.eraseIdx i).drop j))
  (Paired.append (Paired.take _ (Paired.erase _ hA.rul)) (.cons ⟨tm,htr⟩ (Paired.drop _ (Paired.erase _ hA.rul)))) (fun q hq=>hq) hA.li hA.imd
  (hA.wr.of (by rw [IJ];omega) fun r hr => ?_)) (tF (bf.refl H) fun q hq=>.inl hq)
 rcases IH hr with z|z
 ·rw [z]
  exact .inl (aJ hr')
 ·exact .inl (List.mem_of_mem_eraseIdx z)
def dI (C:CC):Sp:=fun vs H Q _=>∃ (s:State) (A:SA) (H0:Hp) (i:Int) (t:Addr) (b f u k lo hi:Int),vs=[.ref A.sw,.int i,.ref t]/\bG C H s A/\bf H0 H/\H0 t=none/\H t=some (.tup [.int b,.int f,.int u,.int k,.int lo,.int hi])/\H0 A.lr≠none /\
 Ans C H0 (Vbcnan.doing s (.rule i b f u k lo hi)).1 A (Vbcnan.doing s (.rule i b f u k lo hi)).2 Q
theorem CK {s:State} (w:WfG s.groups) {f:Int} (h:(f == -1 || Vbcnan.known s f)=true):(f=-1\/0<=f)/\∀ g,Vbcnan.opt f=some g->∃ x,x∈s.groups/\x.id=g:=by
 rcases jk _ _ ▸ h with q|q
 ·have:f=-1:=beq_iff_eq.mp q
  subst this
  exact ⟨.inl rfl,fun g e=>by cases e⟩
 ·obtain ⟨x,hx,e⟩:=(fg w f).mp q
  refine ⟨.inr (by omega),fun g eg=>⟨x,hx,?_⟩⟩
  unfold Vbcnan.opt at eg
  rw [if_neg (by omega)] at eg
  have:=ax eg
  omega
theorem zr (T:TxS K C) (h:dI C vs H Q E):ma K C.sw ck (fS C) (cB C) (Ed Q) (start nW vs) H:=by
 obtain ⟨s,A,H0,i,t,b,f,u,kd,lo,hi,rfl,hA,sm,ht0,ht,Ea,k⟩:=h
 obtain ⟨tc,n1,n2,n3,n4,n5,TT⟩:=T
 have hz:=sizeLine_eq
 have h1:=hA.ins
 have hlr:=hA.lr
 have g1:=hA.gi
 have hls:SqL K H A.lr (A.rs.map V.ref):=SqL.of hA.lr
 have hrl:A.rs.length=s.rules.length:=hA.rul.length
 have Ht:=hA.wr.few
 have hts:SqT K H t [.int b,.int f,.int u,.int kd,.int lo,.int hi]:=SqT.of ht
 have e:Vbcnan.doing s (.rule i b f u kd lo hi)=if Vbcnan.within i 0 (s.rules.length:Int)=false then (s,[-1])
  else if (Vbcnan.within b 0 1&&(Vbcnan.within kd (-1) 255&&(Vbcnan.within lo 0 65535&&(Vbcnan.within hi 0 65535&&decide (lo<=hi)))))=false then (s,[-2])
  else if ((f == -1 || Vbcnan.known s f)&&(u == -1 || Vbcnan.known s u))=false then (s,[-3])
  else if 32<=s.rules.length then (s,[-4])
  else ({s with rules:=s.rules.take i.toNat++(⟨b==1,Vbcnan.opt f,Vbcnan.opt u,Vbcnan.opt kd,lo.toNat,hi.toNat⟩::s.rules.drop i.toNat)},[0]):=rfl
 rw [KR] at e
 unfold ma
 by_cases hi0:0<=i/\i<=(s.rules.length:Int)
 case neg =>
  have:Vbcnan.within i 0 (s.rules.length:Int)=false:=by
   rw [<-pP,ft]
   exact hi0
  rw [e,if_pos this] at k
  by_cases c1:0<=i
  ·have c2:¬i<=(s.rules.length:Int):=fun q=>hi0 ⟨c1,q⟩
   walk_at "x"
   exact (k.more sm).fin hA
  ·walk_at "x"
   exact (k.more sm).fin hA
 case pos =>
  have:¬Vbcnan.within i 0 (s.rules.length:Int)=false:=by
   rw [Bool.not_eq_false,ft]
   exact hi0
  rw [e,if_neg this] at k
  obtain ⟨c1,c2⟩:=hi0
  walk_at "x"
  refine ⟨t,b,f,u,kd,lo,hi,rfl,ht,?_⟩
  walk_at "x"
  cases hrt:zh b kd lo hi with
  |false =>
   rw [if_pos hrt] at k
   walk_at "x"
   exact (k.more sm).fin hA
  |true =>
   rw [if_neg (by rw [hrt];exact fun q=>nomatch q)] at k
   obtain ⟨b1,⟨b2,b3⟩,b4,b5,b6⟩:=of_decide_eq_true hrt
   walk_at "x"
   refine ⟨s,A,f,rfl,hA,?_⟩
   walk_at "x"
   cases hfs:(f == -1 || Vbcnan.known s f) with
   |false =>
    rw [hfs,if_pos (by rfl)] at k
    walk_at "x"
    exact (k.more sm).fin hA
   |true =>
    rw [hfs] at k
    walk_at "x"
    refine ⟨s,A,u,rfl,hA,?_⟩
    walk_at "x"
    cases hus:(u == -1 || Vbcnan.known s u) with
    |false =>
     rw [hus,if_pos (by rfl)] at k
     walk_at "x"
     exact (k.more sm).fin hA
    |true =>
     rw [hus,if_neg (by exact fun q=>nomatch q)] at k
     by_cases h32:32<=s.rules.length
     ·rw [if_pos h32] at k
      walk_at "x"
      exact (k.more sm).fin hA
     ·rw [if_neg h32] at k
      walk_at "x"
      have ei:i=((i.toNat:Nat):Int):=by omega
      obtain ⟨f1,f2⟩:=CK hA.wg hfs
      obtain ⟨u1,u2⟩:=CK hA.wg hus
      have erv:=KQ b1 f1 u1 b2 b4 (by omega:0<=hi)
      have Rz:∀ q,Vbcnan.opt kd=some q->q<=255:=fun q eq=>by
       unfold Vbcnan.opt at eq
       by_cases z:kd<0
       ·rw [if_pos z] at eq
        cases eq
       ·rw [if_neg z] at eq
        have:=ax eq
        omega
      refine ⟨s,A,H0,i.toNat,t,⟨b==1,Vbcnan.opt f,Vbcnan.opt u,Vbcnan.opt kd,lo.toNat,hi.toNat⟩,by rw [<-ei];rfl,hA,sm,ht0,Ea,by rw [erv];exact ht,by omega,
       hA.wr.of (by rw [IJ];omega) (fun r hr => ?_),fun H' A' hA2 hL => ?_⟩
      ·rcases IH hr with z|z
       ·subst z
        exact .inr ⟨f2,u2,Rz,by show lo.toNat<=hi.toNat;omega,by show hi.toNat<=65535;omega⟩
       ·exact .inl z
      ·walk_at "x"
       exact (k.after hL).fin hA2
end
section
variable {K:Frag} {C:CC} {vs:List V} {H:Hp} {Q:VK} {E:XK}
open Vbcnan (State Group Part Rule)
theorem vO {i:Int} {n:Nat}:Vbcnan.within i 0 ((n:Int)-1)=decide (0<=i/\i<(n:Int)):=by
 rw [bU,ft,decide_eq_true_iff]
 omega
theorem vY (T:TxS K C) (h:eW C .norule vs H Q E):jP K C.sw (dy C) (cv C) (Ed Q) (start lg vs) H:=by
 obtain ⟨s,A,i,rfl,hA,k⟩:=h
 obtain ⟨tc,n1,n2,n3,n4,n5,TT⟩:=T
 have hz:=sizeLine_eq
 have h1:=hA.ins
 have hlr:=hA.lr
 have g1:=hA.gi
 have hrl:A.rs.length=s.rules.length:=hA.rul.length
 have Ht:=hA.wr.few
 have e:Vbcnan.doing s (.norule i)=if Vbcnan.within i 0 ((s.rules.length:Int)-1)=false then (s,[-1]) else ({s with rules:=s.rules.eraseIdx i.toNat},[0]):=rfl
 rw [vO] at e
 unfold jP
 walk_at "x"
 refine ⟨s,A,i,rfl,hA,?_⟩
 walk_at "x"
 cases hd:decide (0<=i/\i<(s.rules.length:Int)) with
 |false =>
  rw [e,if_pos hd] at k
  walk_at "x"
  exact k.fin hA
 |true =>
  rw [e,if_neg (by rw [hd];exact fun q=>nomatch q)] at k
  obtain ⟨c1,c2⟩:=of_decide_eq_true hd
  walk_at "x"
  have ei:i=((i.toNat:Nat):Int):=by omega
  refine ⟨s,A,i.toNat,by rw [<-ei];rfl,hA,by omega,fun H' A' hA2 hL => ?_⟩
  walk_at "x"
  exact (k.after hL).fin hA2
theorem zu (T:TxS K C) (h:gf C .move vs H Q E):me K C.sw (dy C) (cq C) (Ed Q) (start nY vs) H:=by
 obtain ⟨s,A,i,j,rfl,hA,k⟩:=h
 obtain ⟨tc,n1,n2,n3,n4,n5,TT⟩:=T
 have hz:=sizeLine_eq
 have h1:=hA.ins
 have hlr:=hA.lr
 have g1:=hA.gi
 have hrl:A.rs.length=s.rules.length:=hA.rul.length
 have Ht:=hA.wr.few
 have e:Vbcnan.doing s (.move i j)=if (Vbcnan.within i 0 ((s.rules.length:Int)-1)&&Vbcnan.within j 0 ((s.rules.length:Int)-1))=false then (s,[-1])
  else match s.rules[i.toNat]? with
   |none=>(s,[-1])
   |some r=>({s with rules:=(s.rules.eraseIdx i.toNat).take j.toNat++(r::(s.rules.eraseIdx i.toNat).drop j.toNat)},[0]):=rfl
 rw [vO,vO] at e
 unfold me
 walk_at "x"
 refine ⟨s,A,i,rfl,hA,?_⟩
 walk_at "x"
 cases hd:decide (0<=i/\i<(s.rules.length:Int)) with
 |false =>
  rw [e,hd,if_pos (by rfl)] at k
  walk_at "x"
  exact k.fin hA
 |true =>
  rw [e,hd] at k
  walk_at "x"
  refine ⟨s,A,j,rfl,hA,?_⟩
  walk_at "x"
  cases hd2:decide (0<=j/\j<(s.rules.length:Int)) with
  |false =>
   rw [hd2,if_pos (by rfl)] at k
   walk_at "x"
   exact k.fin hA
  |true =>
   rw [hd2,if_neg (by exact fun q=>nomatch q)] at k
   obtain ⟨c1,c2⟩:=of_decide_eq_true hd
   obtain ⟨d1,d2⟩:=of_decide_eq_true hd2
   obtain ⟨r,hr⟩:∃ r,s.rules[i.toNat]? = some r:=⟨_,aC (by omega)⟩
   rw [hr] at k
   walk_at "x"
   have ei:i=((i.toNat:Nat):Int):=by omega
   have ej:j=((j.toNat:Nat):Int):=by omega
   refine ⟨s,A,i.toNat,j.toNat,r,by rw [<-ei,<-ej];rfl,hA,hr,by omega,fun H' A' hA2 hL => ?_⟩
   walk_at "x"
   exact (k.after hL).fin hA2
def dq (C:CC):Sp:=fun vs H Q _=>∃ (s:State) (A:SA) (m:Int),vs=[.ref A.sw,.int m]/\bG C H s A/\Ans C H (Vbcnan.step s (.begin_ m)).1 A (Vbcnan.step s (.begin_ m)).2 Q
theorem xW (T:TxS K C) (h:dq C vs H Q E):kW K C.sw (b8 C) (Ed Q) (start mJ vs) H:=by
 obtain ⟨s,A,m,rfl,hA,k⟩:=h
 obtain ⟨tc,n1,n2,n3,n4,n5,TT⟩:=T
 have hz:=sizeLine_eq
 have h1:=hA.ins
 have e:Vbcnan.step s (.begin_ m)=if Vbcnan.within m 1 1024=false then (s,[-1]) else ({on:=true,most:=m.toNat},[0]):=rfl
 unfold kW
 by_cases hc:1<=m/\m<=1024
 ·have:¬Vbcnan.within m 1 1024=false:=by
   rw [Bool.not_eq_false,ft]
   exact hc
  rw [e,if_neg this] at k
  obtain ⟨c1,c2⟩:=hc
  walk_at "x"
  have em:m=((m.toNat:Nat):Int):=by omega
  rw [em]
  refine ⟨s,A,m.toNat,rfl,hA,by omega,by omega,fun H1 A1 hA1 hL1 => ?_⟩
  walk_at "x"
  exact (k.after hL1).fin hA1
 ·have:Vbcnan.within m 1 1024=false:=by
   rw [<-pP,ft]
   exact hc
  rw [e,if_pos this] at k
  by_cases c1:1<=m
  ·have c2:¬m<=1024:=fun q=>hc ⟨c1,q⟩
   walk_at "x"
   exact k.fin hA
  ·walk_at "x"
   exact k.fin hA
end
section
variable {K:Frag} {C:CC} {vs:List V} {H:Hp} {Q:VK} {E:XK}
open Vbcnan (State Group Part Rule coverOf)
theorem wc (T:TxS K C) (h:eW C .blocks vs H Q E):jT K C.sw (aA C) (bW K) bS (Ed Q) (start lp vs) H:=by
 obtain ⟨s,A,id,rfl,hA,k⟩:=h
 obtain ⟨tc,n1,n2,n3,n4,n5,TT⟩:=T
 have hz:=sizeLine_eq
 have h1:=hA.ins
 have hdg:=hA.dg
 have g1:=hA.df
 have e:Vbcnan.doing s (.blocks id)=if Vbcnan.known s id=false then (s,[-1]) else (s,[0,(((Vbcnan.runsOf s.groups id.toNat).flatMap fun p=>coverOf 32 p.1 p.2).length:Int)]++((Vbcnan.runsOf s.groups id.toNat).flatMap fun p=>coverOf 32 p.1 p.2).flatMap fun p=>[(p.1:Int),(p.2:Int)]):=rfl
 unfold jT
 walk_at "x"
 rw [hA.has id]
 cases hk:Vbcnan.known s id with
 |false =>
  rw [e,if_pos hk] at k
  walk_at "x"
  exact k.fin hA
 |true =>
  rw [e,if_neg (by rw [hk];exact fun q=>nomatch q)] at k
  obtain ⟨g,hg,eg⟩:=(fg hA.wg id).mp hk
  subst eg
  rw [aD] at k
  walk_at "x"
  refine ⟨s,A,g,rfl,hA,hg,fun H1 A1 e1 es hA1 hL1 he1 hE hel nM hKe => ?_⟩
  have er:=gq hE nM
  rw [er] at k
  have k1:=k.after hL1
  walk_at "x"
  refine ⟨e1,es,rfl,SqL.of he1,hE,hel,fun H2 p sm hp hL => ?_⟩
  have hpl:=f7 hE.wB
  have hbl:=m6 hE
  walk_at "x"
  refine ⟨p,eD es,rfl,hL.r,by omega,fun H3 q sm3 hq hq3 => ?_⟩
  have ME:=sm.trans sm3
  exact k1 H3 A1 q (hA1.same fun b o _ e=>ME b o e) (Left.of_same A1 ME) (sm.free hq) hq3
def dn:Sp:=fun vs H Q _=>∃ (s:State) (w lo hi:Int),vs=[.int w,.int lo,.int hi]/\∀ H' p,bf H H'->H p=none->H' p=some (.lst ((Vbcnan.doing s (.cover w lo hi)).2.map V.int))->Q (.ref p) H'
theorem xV (h:dn vs H Q E):kU K bu bS (Ed Q) (start mI vs) H:=by
 obtain ⟨s,w,lo,hi,rfl,k⟩:=h
 have hz:=sizeLine_eq
 have e:Vbcnan.doing s (.cover w lo hi)=if Vbcnan.within w 1 32=false then (s,[-1]) else if (Vbcnan.within lo 0 (2 ^ w.toNat-1)&&Vbcnan.within hi 0 (2 ^ w.toNat-1))=false then (s,[-1])
  else (s,[0,((coverOf w.toNat lo.toNat hi.toNat).length:Int)]++(coverOf w.toNat lo.toNat hi.toNat).flatMap fun p=>[(p.1:Int),(p.2:Int)]):=rfl
 have give:∀ p,H p=none->(Vbcnan.doing s (.cover w lo hi)).2=[-1]->Q (.ref p) (upd H p (.lst [.int (-1)])):=fun p hp q=>k _ p (br (bf.refl H) hp) hp (by rw [aw,q];rfl)
 rw [iR,iR,iR] at e
 unfold kU
 by_cases c1:1<=w
 ·by_cases c2:w<=32
  ·rw [decide_eq_true ⟨c1,c2⟩,if_neg (fun q=>nomatch q)] at e
   obtain ⟨n,rfl⟩:∃ n:Nat,w=(n:Int):=⟨w.toNat,by omega⟩
   rw [aD] at e
   have ep:(1:Int)*2 ^ ((n:Int)).toNat=((2 ^ n:Nat):Int):=by rw [aD,Int.one_mul];simp
   have ep2:(2:Int) ^ n=((2 ^ n:Nat):Int):=by simp
   rw [ep2] at e
   walk_at "x"
   refine yP (show uf _ _ from ⟨by omega,by omega,by decide⟩) ?_
   rw [ep]
   generalize hN:(2:Nat) ^ n=N at e
   by_cases c3:0<=lo
   ·by_cases c4:lo<(N:Int)
    ·rw [decide_eq_true (p:=0<=lo/\lo<=(N:Int)-1) ⟨c3,by omega⟩] at e
     by_cases c5:0<=hi
     ·by_cases c6:hi<(N:Int)
      ·rw [decide_eq_true (p:=0<=hi/\hi<=(N:Int)-1) ⟨c5,by omega⟩,if_neg (fun q=>nomatch q)] at e
       obtain ⟨l,rfl⟩:∃ l:Nat,lo=(l:Int):=⟨lo.toNat,by omega⟩
       obtain ⟨h,rfl⟩:∃ h:Nat,hi=(h:Int):=⟨hi.toNat,by omega⟩
       rw [aD,aD] at e
       have hhw:h+1<=2 ^ n:=by rw [hN];omega
       walk_at "x"
       refine ⟨l,h,n,rfl,hhw,by omega,fun H1 p sm hp hL => ?_⟩
       have hbl:=gQ (lo:=l) hhw
       walk_at "x"
       refine ⟨p,_,rfl,hL.r,by omega,fun H2 q sm2 hq hq2=>k H2 q (sm.trans sm2) (sm.free hq) ?_⟩
       rw [e]
       exact hq2
      ·rw [decide_eq_false (p:=0<=hi/\hi<=(N:Int)-1) (fun q=>c6 (by omega)),if_pos (by rfl)] at e
       walk_at "x"
       exact ⟨by show 1<=sizeLine;omega,fun p hp=>give p hp (by rw [e])⟩
     ·rw [decide_eq_false (p:=0<=hi/\hi<=(N:Int)-1) (fun q=>c5 q.1),if_pos (by rfl)] at e
      walk_at "x"
      exact ⟨by show 1<=sizeLine;omega,fun p hp=>give p hp (by rw [e])⟩
    ·rw [decide_eq_false (p:=0<=lo/\lo<=(N:Int)-1) (fun q=>c4 (by omega)),if_pos (by rfl)] at e
     walk_at "x"
     exact ⟨by show 1<=sizeLine;omega,fun p hp=>give p hp (by rw [e])⟩
   ·rw [decide_eq_false (p:=0<=lo/\lo<=(N:Int)-1) (fun q=>c3 q.1),if_pos (by rfl)] at e
    walk_at "x"
    exact ⟨by show 1<=sizeLine;omega,fun p hp=>give p hp (by rw [e])⟩
  ·rw [decide_eq_false (p:=1<=w/\w<=32) (fun q=>c2 q.2),if_pos (by rfl)] at e
   walk_at "x"
   exact ⟨by show 1<=sizeLine;omega,fun p hp=>give p hp (by rw [e])⟩
 ·rw [decide_eq_false (p:=1<=w/\w<=32) (fun q=>c1 q.1),if_pos (by rfl)] at e
  walk_at "x"
  exact ⟨by show 1<=sizeLine;omega,fun p hp=>give p hp (by rw [e])⟩
theorem zG:∀ {l m:List Int},(∀ x,x∈l->0<=x)->(∀ x,x∈m->0<=x)->Inc l->Inc m->l.length%2=0->m.length%2=0->bp l=bp m->l=m
 | [],[],_,_,_,_,_,_,_=>rfl
 | [],[_],_,_,_,_,_,h,_=>by simp at h
 | [],_::_::_,_,_,_,_,_,_,h=>by cases h
 | [_],_,_,_,_,_,h,_,_=>by simp at h
 |_::_::_,[],_,_,_,_,_,_,h=>by cases h
 |_::_::_,[_],_,_,_,_,_,h,_=>by simp at h
 |a::b::l,c::d::m,h1,h2,i1,i2,e1,e2,h=>by
  have h:(a.toNat,(b-1).toNat)::bp l=(c.toNat,(d-1).toNat)::bp m:=h
  injection h with ha hl
  have ha1:=congrArg Prod.fst ha
  have ha2:=congrArg Prod.snd ha
  have ha1:a.toNat=c.toNat:=ha1
  have ha2:(b-1).toNat=(d-1).toNat:=ha2
  have p1:=h1 a (by simp)
  have p2:=h2 c (by simp)
  have q1:a<b:=(aR.mp i1).1 b (by simp)
  have q2:c<d:=(aR.mp i2).1 d (by simp)
  have ea:a=c:=by omega
  have eb:b=d:=by omega
  have:=zG (l:=l) (m:=m) (fun x hx=>h1 x (by simp [hx])) (fun x hx=>h2 x (by simp [hx])) (aR.mp (aR.mp i1).2).2 (aR.mp (aR.mp i2).2).2 (by simp at e1;omega) (by simp at e2;omega) hl
  rw [ea,eb,this]
theorem Eu {K:Frag} {H:Hp}:∀ (ns:List Int),AU K H (ns.map V.int) (ns.map PyData.int)
 | []=>.nil
 |n::ns=>.cons (.int n) (Eu ns)
theorem zp (T:TxS K C) (h:gf C .same vs H Q E):l8 K C.sw (aA C) (Ed Q) (start nU vs) H:=by
 obtain ⟨s,A,id,od,rfl,hA,k⟩:=h
 obtain ⟨tc,n1,n2,n3,n4,n5,TT⟩:=T
 have hz:=sizeLine_eq
 have h1:=hA.ins
 have hdg:=hA.dg
 have g1:=hA.df
 have e:Vbcnan.doing s (.same id od)=if (Vbcnan.known s id&&Vbcnan.known s od)=false then (s,[-1]) else (s,[((Vbcnan.runsOf s.groups id.toNat==Vbcnan.runsOf s.groups od.toNat).toNat:Int)]):=rfl
 unfold l8
 walk_at "x"
 rw [hA.has id]
 cases hk:Vbcnan.known s id with
 |false =>
  rw [e,hk,if_pos (by rfl)] at k
  walk_at "x"
  exact k.fin hA
 |true =>
  rw [e,hk] at k
  walk_at "x"
  rw [hA.has od]
  cases hk2:Vbcnan.known s od with
  |false =>
   rw [hk2,if_pos (by rfl)] at k
   walk_at "x"
   exact k.fin hA
  |true =>
   rw [hk2,if_neg (fun q=>nomatch q)] at k
   obtain ⟨g,hg,eg⟩:=(fg hA.wg id).mp hk
   obtain ⟨g',hg',eg'⟩:=(fg hA.wg od).mp hk2
   subst eg eg'
   rw [aD,aD] at k
   walk_at "x"
   refine ⟨s,A,g,rfl,hA,hg,fun H1 A1 e1 es hA1 hL1 he1 hE hel nM hKe => ?_⟩
   have h11:=hA1.ins
   rw [hL1.sw] at h11
   walk_at "x"
   refine ⟨s,A1,g',by rw [hL1.sw];rfl,hA1,hg',fun H2 A2 e2 es2 hA2 hL2 he2 hE2 Nr IQ PR => ?_⟩
   have PH:=PR.keep _ _ he1 (fun kvs q=>by cases q)
   have k2:=(k.after hL1).after hL2
   rw [gq hE nM,gq hE2 IQ] at k2
   refine ⟨.list (es.map PyData.int),.list (es2.map PyData.int),.lst (SqL.of PH) (Eu es),.lst (SqL.of he2) (Eu es2),PySem.W.ke_shaped_ints _,PySem.W.ke_shaped_ints _,?_⟩
   have eq1:PyData.eqv (.list (es.map PyData.int)) (.list (es2.map PyData.int))=decide (es=es2):=PySem.W.ked_eqvAll es es2
   have eq2:(bp es==bp es2)=decide (es=es2):=by
    rw [bU,beq_iff_eq,decide_eq_true_iff]
    exact ⟨zG (fun x hx=>(hE.bnd x hx).1) (fun x hx=>(hE2.bnd x hx).1) hE.inc hE2.inc hE.wB hE2.wB,fun q=>by rw [q]⟩
   rw [eq1]
   rw [eq2] at k2
   walk_at "x"
   cases hd:decide (es=es2) with
   |true =>
    rw [hd] at k2
    walk_at "x"
    exact k2.fin hA2
   |false =>
    rw [hd] at k2
    walk_at "x"
    exact k2.fin hA2
theorem MZ {m:List Int} (E:dY m):m=[]↔∀ z:Nat,z<Vbcnan.ALL->odd m z=false:=by
 constructor
 ·rintro rfl z _
  rfl
 ·intro h
  cases m with
  |nil=>rfl
  |cons a m =>
   cases m with
   |nil=>have:=E.wB;simp at this
   |cons b m =>
    have p1:=E.bnd a (by simp)
    have p2:=E.bnd b (by simp)
    have q1:a<b:=(aR.mp E.inc).1 b (by simp)
    have:=h a.toNat (by show a.toNat<4294967296;omega)
    have ea:((a.toNat:Nat):Int)=a:=by omega
    rw [ea] at this
    unfold odd at this
    have hc:cnt (a::b::m) a=1:=wD 1 (by simp) (fun x hx=>by simp at hx;omega) (fun x hx=>(aR.mp E.inc).1 x hx)
    rw [hc] at this
    cases this
theorem wa (T:TxS K C) (h:gf C .inside vs H Q E):jR K C.sw (aA C) (gx K) (Ed Q) (start lj vs) H:=by
 obtain ⟨s,A,id,od,rfl,hA,k⟩:=h
 obtain ⟨tc,n1,n2,n3,n4,n5,TT⟩:=T
 have hz:=sizeLine_eq
 have h1:=hA.ins
 have hdg:=hA.dg
 have g1:=hA.df
 have e:Vbcnan.doing s (.inside id od)=if (Vbcnan.known s id&&Vbcnan.known s od)=false then (s,[-1]) else (s,[(((Vbcnan.pieces (Vbcnan.cuts s.groups)).all fun p => !Vbcnan.isIn s.groups id.toNat p.1 || Vbcnan.isIn s.groups od.toNat p.1).toNat:Int)]):=rfl
 unfold jR
 walk_at "x"
 rw [hA.has id]
 cases hk:Vbcnan.known s id with
 |false =>
  rw [e,hk,if_pos (by rfl)] at k
  walk_at "x"
  exact k.fin hA
 |true =>
  rw [e,hk] at k
  walk_at "x"
  rw [hA.has od]
  cases hk2:Vbcnan.known s od with
  |false =>
   rw [hk2,if_pos (by rfl)] at k
   walk_at "x"
   exact k.fin hA
  |true =>
   rw [hk2,if_neg (fun q=>nomatch q)] at k
   obtain ⟨g,hg,eg⟩:=(fg hA.wg id).mp hk
   obtain ⟨g',hg',eg'⟩:=(fg hA.wg od).mp hk2
   subst eg eg'
   rw [aD,aD] at k
   walk_at "x"
   refine ⟨s,A,g,rfl,hA,hg,fun H1 A1 e1 es hA1 hL1 he1 hE hel nM hKe => ?_⟩
   have h11:=hA1.ins
   rw [hL1.sw] at h11
   walk_at "x"
   refine ⟨s,A1,g',by rw [hL1.sw];rfl,hA1,hg',fun H2 A2 e2 es2 hA2 hL2 he2 hE2 Nr IQ PR => ?_⟩
   have PH:=PR.keep _ _ he1 (fun kvs q=>by cases q)
   have k2:=(k.after hL1).after hL2
   walk_at "x"
   refine ⟨e1,e2,es,es2,false,rfl,SqL.of PH,SqL.of he2,hE.inc,hE2.inc,by omega,fun p m hp mM wo Px => ?_⟩
   have hEm:=hE.made hE2 mM wo Px
   have hin:((Vbcnan.pieces (Vbcnan.cuts s.groups)).all fun p => !Vbcnan.isIn s.groups g.id p.1 || Vbcnan.isIn s.groups g'.id p.1)=m.isEmpty:=by
    rw [bU,Hq,List.isEmpty_iff,MZ hEm]
    constructor
    ·intro h z hz'
     rw [Px z,IQ z hz',nM z hz']
     cases q1:Vbcnan.isIn s.groups g'.id z with
     |true=>rfl
     |false =>
      cases q2:Vbcnan.isIn s.groups g.id z with
      |false=>rfl
      |true =>
       have:=h z hz' q2
       rw [q1] at this
       cases this
    ·intro h z hz' q2
     have:=h z hz'
     rw [Px z,IQ z hz',nM z hz',q2] at this
     cases q1:Vbcnan.isIn s.groups g'.id z with
     |true=>rfl
     |false=>rw [q1] at this;cases this
   rw [hin] at k2
   have sm:=br (o:=.lst (m.map V.int)) (bf.refl H2) hp
   have hA3:bG C (upd H2 p (.lst (m.map V.int))) s A2:=hA2.same fun b o _ q=>sm b o q
   have hpl:SqL K (upd H2 p (.lst (m.map V.int))) p (m.map V.int):=SqL.of aw
   generalize upd H2 p (.lst (m.map V.int))=H3 at sm hA3 hpl ⊢
   cases m with
   |nil =>
    walk_at "x"
    exact (k2.more sm).fin hA3
   |cons x m =>
    walk_at "x"
    exact (k2.more sm).fin hA3
end
section
variable {K:Frag} {C:CC} {vs:List V} {H:Hp} {Q:VK} {E:XK}
open Vbcnan (State Group Part Rule coverOf block)
def bE (C:CC):Sp:=fun vs H Q _=>∃ (s:State) (A:SA) (o:Option Nat),vs=[.ref A.sw,eZ o]/\bG C H s A/\(∀ g,o=some g->∃ x,x∈s.groups/\x.id=g) /\
 ∀ H' A' e es,bG C H' s A'->Left H H' A A'->gE H H' A A'->H' e=some (.lst (es.map V.int))->dY es->es.length<=512->Vbcnan.fieldsOf s.groups o=(eD es).map (block 32)->Q (.ref e) H'
theorem oz (T:TxS K C) (h:bE C vs H Q E):fG K C.sw (aA C) (Ed Q) (start gb vs) H:=by
 obtain ⟨s,A,o,rfl,hA,ho,k⟩:=h
 have hz:=sizeLine_eq
 have h1:=hA.ins
 unfold fG
 cases o with
 |none =>
  unfold eZ
  walk_at "x"
  refine ⟨by show 2<=sizeLine;omega,fun p hp => ?_⟩
  have sm:=br (o:=.lst [.int 0,.int (4294967295+1)]) (bf.refl H) hp
  exact k _ A p [0,4294967296] (hA.same fun b o _ e=>sm b o e) (Left.of_same A sm) (gE.same sm) aw (dY.range (lo:=0) (hi:=4294967295) (by decide) (by decide)) (by decide) (HF _)
 |some g =>
  obtain ⟨x,hx,rfl⟩:=ho g rfl
  unfold eZ
  walk_at "x"
  exact ⟨s,A,x,rfl,hA,hx,fun H1 A1 e es hA1 hL1 he hE hel nM hKe=>k H1 A1 e es hA1 hL1 hKe he hE hel (LO hE nM)⟩
def dC (C:CC):Sp:=fun vs H Q _=>∃ (x dx lr:Addr) (too:Bool) (raw:Nat),vs=[.ref x,.bl too,.int raw,.ref lr]/\H x=some (.ins C.tb dx [])/\∀ H',H' x=some (.ins C.tb dx (qa too raw lr))->(∀ b o,H b=some o->b≠x->H' b=some o)->(∀ b,H' b=none->H b=none)->Q .non H'
theorem Bv (T:TxS K C) (h:dC C vs H Q E):nA K (Ed Q) (start pL vs) H:=by
 obtain ⟨x,dx,lr,too,raw,rfl,hx,k⟩:=h
 obtain ⟨tc,m1,m2,m3⟩:=T.tab
 unfold nA
 walk_at "x"
 refine dA hx tc m1 (show 0<1000 by decide) ?_
 have h2:upd H x (.ins C.tb dx (gu "too_many" (.bl too) [])) x=some (.ins C.tb dx (gu "too_many" (.bl too) [])):=aw
 walk_at "x"
 refine dA h2 tc m2 (show 1<1000 by decide) ?_
 rw [gS]
 have h3:upd H x (.ins C.tb dx (gu "raw_count" (.int raw) (gu "too_many" (.bl too) []))) x=some (.ins C.tb dx (gu "raw_count" (.int raw) (gu "too_many" (.bl too) []))):=aw
 walk_at "x"
 refine dA h3 tc m3 (show 2<1000 by decide) ?_
 rw [gS]
 exact k _ (by rw [aw];rfl) (fun b o e hb=>by rw [au hb];exact e) (fun b h=>cc h)
def eI (C:CC):Sp:=fun vs H Q _=>∃ (s:State) (A:SA),vs=[.ref A.sw]/\bG C H s A/\s.on=true /\
 ∀ (H':Hp) (A':SA) (t dt lr:Addr) (ts:List Addr) (too:Bool) (raw:Nat) (rows:List Vbcnan.Row),bG C H' s A'->Left H H' A A'->gE H H' A A'->H' t=some (.ins C.tb dt (qa too raw lr))->H' lr=some (.lst (ts.map V.ref))->Paired (fun q r=>H q=none/\H' q=some (.tup (g6 r))) ts rows ->
  H t=none->H lr=none->L9 s too raw rows->Q (.ref t) H'
theorem qu {s:State} {i:Nat} {r:Rule} (hr:s.rules[i]? = some r):((s.rules.take (i+1)).flatMap fun r=>Vbcnan.rowsOf s.groups r)=((s.rules.take i).flatMap fun r=>Vbcnan.rowsOf s.groups r)++Vbcnan.rowsOf s.groups r:=by
 rw [cQ,hr,da]
 simp
theorem OZ (s:State) (i:Nat):((s.rules.take i).flatMap fun r=>Vbcnan.rowsOf s.groups r).length<=Vbcnan.rawCount s:=by
 rw [uI]
 unfold Vbcnan.rawRows
 have:s.rules=s.rules.take i++s.rules.drop i:=(gd i s.rules).symm
 rw [congrArg (List.flatMap fun r=>Vbcnan.rowsOf s.groups r) this,da,aG]
 omega
theorem Fp {gs:List Group} {r:Rule} (h:Vbcnan.fieldsOf gs r.src=[]\/Vbcnan.fieldsOf gs r.dst=[]):Vbcnan.rowsOf gs r=[]:=by
 have:=sX gs r
 unfold Vbcnan.countOf at this
 rcases h with h|h<;>rw [h] at this<;>simp at this<;>exact this
theorem bG.D4 {C:CC} {H:Hp} {s:State} {A:SA} (h:bG C H s A) {b:Addr} (hb:H b=none):b∉A.own:=by
 intro q
 have q:b=A.dx\/b=A.sw\/b=A.dg\/b=A.lr\/b=A.dk\/b∈A.im:=by simpa [SA.own,SA.mut,or_assoc] using q
 rcases q with rfl|rfl|rfl|rfl|rfl|z
 ·rw [h.dx] at hb;cases hb
 ·rw [h.ins] at hb;cases hb
 ·rw [h.dg] at hb;cases hb
 ·rw [h.lr] at hb;cases hb
 ·rw [h.dk] at hb;cases hb
 ·exact h.imd b z hb
theorem bG.out {C:CC} {H:Hp} {s:State} {A:SA} (h:bG C H s A) {G:Addr} {o:HO} (hG:G∉A.own):bG C (upd H G o) s A :=
 h.same fun b u hb e=>by
  rw [au (fun q=>hG (by rw [<-q];exact hb))]
  exact e
theorem Left.put {H H':Hp} {A A':SA} (h:Left H H' A A') {p:Addr} {o:HO} (hp:H p=none):Left H (upd H' p o) A A':=⟨h.sw,h.grow,fun b u e hb=>by
 rw [au (az e hp)]
 exact h.keep b u e hb,fun b q=>h.dom b (cc q)⟩
theorem gE.put {H H':Hp} {A A':SA} (h:gE H H' A A') {p:Addr} {o:HO} (hp:H p=none):gE H (upd H' p o) A A':=⟨h.lr,h.kt,fun b u e hn=>by
 rw [au (az e hp)]
 exact h.keep b u e hn⟩
theorem CP {H H1:Hp} {x dx C:Addr} (hx:H x=none) (hdx:H dx=none) (kp:∀ b o,upd (upd H dx (.own x)) x (.ins C dx []) b=some o->b≠x->H1 b=some o):bf H H1:=fun b o e=>by
 have h1:=az e hx
 exact kp b o (by rw [au h1,au (az e hdx)];exact e) h1
theorem E4:∀ (l:List Vbcnan.Row),(Vbcnan.trim l).length<=l.length
 | []=>ay _
 |x::l=>by
  have ih:=E4 l
  unfold Vbcnan.trim
  split
  ·split<;>simp
  ·rename_i m hm
   simp
   omega
theorem Bn (T:TxS K C) (h:eI C vs H Q E) :
 ni K C.sw C.tb (bE C) (bW K) bu (dC C) (cT K) lD fj mO (Ed Q) (start pD vs) H:=by
 obtain ⟨s,A,rfl,hA,hon,k⟩:=h
 obtain ⟨tc,n1,n2,n3,n4,n5,TT⟩:=T
 have hz:=sizeLine_eq
 have TM:=hA.most
 have nl:∀ xs,yt (.lst xs):=fun xs kvs q=>by cases q
 have nt:∀ xs,yt (.tup xs):=fun xs kvs q=>by cases q
 have hrl:A.rs.length=s.rules.length:=hA.rul.length
 unfold ni
 walk_at "x"
 refine ⟨aT _,fun p hp => ?_⟩
 have sm0:=br (o:=.lst []) (bf.refl H) hp
 have hA0:bG C (upd H p (.lst [])) s A:=hA.same fun b o _ e=>sm0 b o e
 have hp0:upd H p (.lst []) p=some (.lst []):=aw
 generalize upd H p (.lst [])=H0 at sm0 hA0 hp0 ⊢
 have h1:=hA0.ins
 have g1:=hA.gi
 have Ea:SqL K H0 A.lr (A.rs.map V.ref):=SqL.of hA0.lr
 walk_at "x"
 refine dO (K:=K) (a:=A.lr) (xs:=A.rs.map V.ref) (fun i σ H'=>∃ (A':SA) (ts:List Addr) (v2 v3 v4 v5 v6 v7:Option V),σ = [some (.ref A.sw),some (.ref p),v2,v3,v4,v5,v6,v7]/\bG C H' s A'/\Left H H' A A'/\gE H H' A A'/\H' p=some (.lst (ts.map V.ref)) /\
  Paired (fun t x=>H t=none/\H' t=some (.tup (g6 x))) ts ((s.rules.take i).flatMap fun r=>Vbcnan.rowsOf s.groups r)/\((s.rules.take i).flatMap fun r=>Vbcnan.rowsOf s.groups r).length<=s.most/\(∀ x,x∈((s.rules.take i).flatMap fun r=>Vbcnan.rowsOf s.groups r)->dP x)/\p∉A'.own)
  ⟨A,[],none,none,none,none,none,none,rfl,hA0,Left.of_same A sm0,gE.same sm0,hp0,.nil,aT _,(fun x hx=>by cases hx),?_⟩ (fun i σ H' _ ⟨_,_,_,_,_,_,_,_,_,_,_,hK,_⟩=>SqL.of (hK.keep _ _ hA.lr (nl _))) ?_ ?_
 ·exact hA.D4 hp
 ·rintro i x σ H1 hx ⟨A1,ts,v2,v3,v4,v5,v6,v7,rfl,hA1,hL1,hK1,hp1,hP1,IS,Hv,Ro⟩
  obtain ⟨q,rfl,hq⟩:=cX hx
  obtain ⟨r,hr,hqm,hqr⟩:=Paired.get hA.rul hq
  have hrm:r∈s.rules:=aJ hr
  obtain ⟨hpl,hph⟩:=hA.wr.port r hrm
  have hq1:SqT K H1 q [.int (if r.pass then 1 else 0),eZ r.src,eZ r.dst,eZ r.kind,.int r.lo,.int r.hi]:=SqT.of (hK1.keep _ _ hqr (nt _))
  have h11:=hA1.ins
  rw [hL1.sw] at h11
  walk_at "x"
  refine ⟨s,A1,r.src,by rw [hL1.sw];rfl,hA1,hA.wr.src r hrm,fun H2 A2 e1 es1 hA2 hL2 hK2 he1 hE1 Tb hf1 => ?_⟩
  have h12:=hA2.ins
  rw [hL2.sw,hL1.sw] at h12
  have hq2:SqT K H2 q [.int (if r.pass then 1 else 0),eZ r.src,eZ r.dst,eZ r.kind,.int r.lo,.int r.hi]:=SqT.of ((hK1.trans hK2).keep _ _ hqr (nt _))
  walk_at "x"
  refine ⟨s,A2,r.dst,by rw [hL2.sw,hL1.sw];rfl,hA2,hA.wr.dst r hrm,fun H3 A3 e2 es2 hA3 hL3 hK3 he2 hE2 Nr hf2 => ?_⟩
  have PU:=hK2.trans hK3
  have RF:=hL2.trans hL3
  have J6:=hL1.trans RF
  have Nu:=hK1.trans PU
  have Td:=hK3.keep _ _ he1 (nl _)
  have hp3:=PU.keep _ _ hp1 (nl _)
  have hP3:Paired (fun t x=>H t=none/\H3 t=some (.tup (g6 x))) ts ((s.rules.take i).flatMap fun r=>Vbcnan.rowsOf s.groups r):=Paired.imp (fun t x ⟨y,z⟩=>⟨y,PU.keep _ _ z (nt _)⟩) hP1
  have Pw:p∉A3.own:=fun z=>by
   rcases RF.grow p z with y|y
   ·exact Ro y
   ·rw [hp1] at y;cases y
  have Pu:=Nu.keep _ _ hqr (nt _)
  have h13:=hA3.ins
  rw [J6.sw] at h13
  have PY:=sX s.groups r
  unfold Vbcnan.countOf at PY
  rw [hf1,hf2,ab,ab] at PY
  have s1:SqL K H3 e1 (es1.map V.int):=SqL.of Td
  have s2:SqL K H3 e2 (es2.map V.int):=SqL.of he2
  have hq3:SqT K H3 q [.int (if r.pass then 1 else 0),eZ r.src,eZ r.dst,eZ r.kind,.int r.lo,.int r.hi]:=SqT.of Pu
  have oR:Vbcnan.rowsOf s.groups r=[]->∀ (a2 a3 a4 a5 a6 a7:Option V),∃ (A':SA) (ts:List Addr) (v2 v3 v4 v5 v6 v7:Option V),[some (V.ref A.sw),some (.ref p),a2,a3,a4,a5,a6,a7]=[some (.ref A.sw),some (.ref p),v2,v3,v4,v5,v6,v7]/\bG C H3 s A'/\Left H H3 A A'/\gE H H3 A A'/\H3 p=some (.lst (ts.map V.ref)) /\
   Paired (fun t x=>H t=none/\H3 t=some (.tup (g6 x))) ts ((s.rules.take (i+1)).flatMap fun r=>Vbcnan.rowsOf s.groups r)/\((s.rules.take (i+1)).flatMap fun r=>Vbcnan.rowsOf s.groups r).length<=s.most/\(∀ x,x∈((s.rules.take (i+1)).flatMap fun r=>Vbcnan.rowsOf s.groups r)->dP x)/\p∉A'.own:=fun hn a2 a3 a4 a5 a6 a7=>by
   rw [qu hr,hn,cS]
   exact ⟨A3,ts,a2,a3,a4,a5,a6,a7,rfl,hA3,J6,Nu,hp3,hP3,IS,Hv,Pw⟩
  cases PF:es1 with
  |nil =>
   rw [PF] at s1 hf1
   walk_at "x"
   exact oR (Fp (.inl hf1)) _ _ _ _ _ _
  |cons y1 l1 =>
   have hb1:(!(es1.map V.int).isEmpty)=true:=by rw [PF];rfl
   cases PD:es2 with
   |nil =>
    rw [PD] at s2 hf2
    walk_at "x"
    refine Dg hb1 ?_
    walk_at "x"
    exact oR (Fp (.inr hf2)) _ _ _ _ _ _
   |cons y2 l2 =>
    have hb2:(!(es2.map V.int).isEmpty)=true:=by rw [PD];rfl
    clear PF PD
    walk_at "x"
    refine Dg hb1 ?_
    walk_at "x"
    refine Dg hb2 ?_
    walk_at "x"
    refine ⟨e1,es1,rfl,s1,hE1,Tb,fun H4 a1 sm4 ha1 Ts => ?_⟩
    have Tc:=sm4 _ _ he2
    walk_at "x"
    refine ⟨e2,es2,rfl,SqL.of Tc,hE2,Nr,fun H5 a2 sm5 ha2 Tr => ?_⟩
    have hq5:SqT K H5 q [.int (if r.pass then 1 else 0),eZ r.src,eZ r.dst,eZ r.kind,.int r.lo,.int r.hi]:=SqT.of (sm5 _ _ (sm4 _ _ Pu))
    walk_at "x"
    refine ⟨r.lo,r.hi,16,rfl,by omega,by decide,fun H6 a3 sm6 ha3 Tq => ?_⟩
    have GU:=(sm4.trans sm5).trans sm6
    obtain ⟨t1,ht1,hT1⟩:=Ts.r.same (sm5.trans sm6)
    obtain ⟨t2,ht2,hT2⟩:=Tr.r.same sm6
    obtain ⟨t3,ht3,hT3⟩:=Tq.r
    have hl1:(t1.map V.ref).length=(eD es1).length:=by rw [ab];exact hT1.length
    have hl2:(t2.map V.ref).length=(eD es2).length:=by rw [ab];exact hT2.length
    have hl3:(t3.map V.ref).length=(coverOf 16 r.lo r.hi).length:=by rw [ab];exact hT3.length
    have hl0:(ts.map V.ref).length=((s.rules.take i).flatMap fun r=>Vbcnan.rowsOf s.groups r).length:=by rw [ab];exact hP1.length
    have sq1:SqL K H6 a1 (t1.map V.ref):=SqL.of ht1
    have sq2:SqL K H6 a2 (t2.map V.ref):=SqL.of ht2
    have sq3:SqL K H6 a3 (t3.map V.ref):=SqL.of ht3
    have hp6:=GU _ _ hp3
    have sq0:SqL K H6 p (ts.map V.ref):=SqL.of hp6
    have h16:=GU _ _ h13
    unfold SA.fs at h16
    rw [if_pos hon] at h16
    have gm:=Ep (.int (s.most:Int)) (.ref A3.dg) (.ref A3.lr) (.ref A3.dk) A3.kt
    have Ui:=m6 hE1
    have Uh:=m6 hE2
    have Ua:=f7 hE1.wB
    have T9:=f7 hE2.wB
    have hcl:(coverOf 16 r.lo r.hi).length<=33:=gQ (by omega)
    walk_at "x"
    rw [hl1,hl2]
    refine yP (show Im _ _ from .inl ⟨by omega,by omega⟩) ?_
    walk_at "x"
    rw [hl3]
    refine yP (show Im _ _ from .inr ⟨by omega,by omega⟩) ?_
    walk_at "x"
    have Tu:((((s.rules.take i).flatMap fun r=>Vbcnan.rowsOf s.groups r).length:Nat):Int)+((eD es1).length:Int)*((eD es2).length:Int)*((coverOf 16 r.lo r.hi).length:Int)=((((s.rules.take i).flatMap fun r=>Vbcnan.rowsOf s.groups r).length+(Vbcnan.rowsOf s.groups r).length:Nat):Int):=by
     rw [PY,Int.mul_assoc]
     simp
    rw [hl0,Tu]
    by_cases TN:s.most<((s.rules.take i).flatMap fun r=>Vbcnan.rowsOf s.groups r).length+(Vbcnan.rowsOf s.groups r).length
    ·walk_at "x"
     unfold sC
     walk_at "x"
     refine ⟨aT _,fun lr hlr => ?_⟩
     walk_at "x"
     intro x dx hx hdx hne
     have smL:=br (o:=.lst []) (bf.refl H6) hlr
     refine ⟨x,dx,lr,true,0,rfl,aw,fun H9 hx9 kp9 dm9=>⟨rfl,?_⟩⟩
     have sm9:=CP hx hdx kp9
     have OR:=GU.trans (smL.trans sm9)
     have dm:∀ b,H6 b=none->H b=none:=fun b q=>J6.dom b (GU.free q)
     refine k H9 A3 x dx lr [] true 0 [] (hA3.same fun b o _ e=>OR b o e) (J6.trans (Left.of_same A3 OR)) (Nu.trans (gE.same OR)) hx9 (sm9 _ _ aw) .nil (dm x (smL.free hx)) (dm lr hlr)
      ⟨?_,fun z=>(by cases z),fun z=>(by cases z),fun z hz'=>(by cases hz'),aT _⟩
     have:=OZ s (i+1)
     rw [qu hr,aG] at this
     exact (decide_eq_true (by omega)).symm
    ·have LQ:Vbcnan.rowsOf s.groups r=rawOf (eD es1) (eD es2) r:=KW hf1 hf2
     have FY:∀ x,x∈Vbcnan.rowsOf s.groups r->dP x:=MG hf1 hf2 (fun f hf=>Aj hE1 hf) (fun f hf=>Aj hE2 hf) (hA.wr.kind r hrm) hph
     have hbk:∀ {es:List Int},dY es->∀ b,b∈eD es->b.2<=32:=fun {es} hE b hb=>by
      obtain ⟨pp,hpp,hb⟩:=kQ.mp hb
      exact (wC (lU hE.bnd hE.inc hpp) hb).1
     walk_at "x"
     refine ⟨q,a1,a2,a3,r,eD es1,eD es2,rfl,SqT.of (GU _ _ Pu),⟨t1,ht1,hT1⟩,⟨t2,ht2,hT2⟩,⟨t3,ht3,hT3⟩,hbk hE1,hbk hE2,by omega,by omega,hph,by rw [<-LQ];omega,by rw [<-LQ];exact FY,fun H7 p7 sm7 hp7 hL7 => ?_⟩
     obtain ⟨u7,hu7,hU7⟩:=hL7
     rw [<-LQ] at hU7
     have hul:u7.length=(Vbcnan.rowsOf s.groups r).length:=hU7.length
     have Rq:=sm7 _ _ hp6
     have MD:=GU.trans sm7
     walk_at "x"
     refine Cr Rq hu7 (by rw [hl0,ab];omega) ?_
     have dm:∀ b,H6 b=none->H b=none:=fun b q=>J6.dom b (GU.free q)
     have kpt:∀ b xs,H7 b=some (HO.tup xs)->upd H7 p (.lst (ts.map V.ref++u7.map V.ref)) b=some (.tup xs):=fun b xs e=>by rw [au (bR e Rq (by intro z;cases z))];exact e
     refine ⟨A3,ts++u7,_,_,_,_,_,_,rfl,bG.out (hA3.same fun b o _ e=>MD b o e) Pw,Left.put (J6.trans (Left.of_same A3 MD)) hp,gE.put (Nu.trans (gE.same MD)) hp,by rw [aw,bt],?_,?_,?_,Pw⟩
     ·rw [qu hr]
      exact Paired.append (Paired.imp (fun t x ⟨y,z⟩=>⟨y,kpt _ _ (MD _ _ z)⟩) hP3) (Paired.imp (fun t x ⟨y,z⟩=>⟨dm _ y,kpt _ _ z⟩) hU7)
     ·rw [qu hr,aG]
      omega
     ·rw [qu hr]
      intro x hx
      rcases aQ.mp hx with z|z
      ·exact Hv x z
      ·exact FY x z
 ·rintro σ H1 ⟨A1,ts,v2,v3,v4,v5,v6,v7,rfl,hA1,hL1,hK1,hp1,hP1,IS,Hv,Ro⟩
  rw [a8 (by rw [ab];omega)] at hP1 IS Hv
  have LQ:(s.rules.flatMap fun r=>Vbcnan.rowsOf s.groups r)=Vbcnan.rawRows s:=rfl
  rw [LQ] at hP1 IS Hv
  have htl:(ts.map V.ref).length=(Vbcnan.rawRows s).length:=by rw [ab];exact hP1.length
  have sq1:SqL K H1 p (ts.map V.ref):=SqL.of hp1
  have t1l:=uq (Vbcnan.rawRows s) []
  have t1s:=uo (Vbcnan.rawRows s) []
  have NB:Vbcnan.table s=Vbcnan.trim (Vbcnan.thin [] (du [] (Vbcnan.thin [] (Vbcnan.rawRows s)))):=by
   unfold Vbcnan.table
   show Vbcnan.trim (Vbcnan.thin [] (Vbcnan.joinAll _ _))=_
   rw [Hl]
  generalize hT1:Vbcnan.thin [] (Vbcnan.rawRows s)=T1 at t1l t1s NB
  have ok1:∀ r,r∈T1->dP r:=fun r hr=>Hv r (t1s r hr)
  have s1l:=xp T1 []
  have ok2:=yZ T1 [] (fun r hr=>by cases hr) ok1
  have t2l:=uq (du [] T1) []
  have t2s:=uo (du [] T1) []
  simp only [List.length_nil,kO] at s1l
  unfold sC
  walk_at "x"
  refine ⟨p,Vbcnan.rawRows s,H,rfl,⟨ts,hp1,hP1⟩,Hv,by omega,fun H2 p2 sm2 hp2 hL2 => ?_⟩
  rw [hT1] at hL2
  walk_at "x"
  refine ⟨p2,T1,H,rfl,hL2,fun b q=>hL1.dom b (sm2.free q),ok1,by omega,fun H3 p3 sm3 hp3 hL3 => ?_⟩
  walk_at "x"
  refine ⟨p3,du [] T1,H,rfl,hL3,ok2,by omega,fun H4 p4 sm4 hp4 hL4 => ?_⟩
  walk_at "x"
  refine ⟨p4,Vbcnan.thin [] (du [] T1),H,rfl,hL4,by omega,fun H5 p5 sm5 hp5 hL5 => ?_⟩
  have QX:=(sm2.trans sm3).trans (sm4.trans sm5)
  walk_at "x"
  intro x dx hx hdx hne
  refine ⟨x,dx,p5,false,(Vbcnan.rawRows s).length,by rw [htl];rfl,aw,fun H9 hx9 kp9 dm9=>⟨rfl,?_⟩⟩
  have sm9:=CP hx hdx kp9
  have OT:=QX.trans sm9
  obtain ⟨us,hus,hPu⟩:=hL5.same sm9
  rw [<-NB] at hPu
  have dm:∀ b,H1 b=none->H b=none:=hL1.dom
  refine k H9 A1 x dx p5 us false _ (Vbcnan.table s) (hA1.same fun b o _ e=>OT b o e) (hL1.trans (Left.of_same A1 OT)) (hK1.trans (gE.same OT)) hx9 hus hPu (dm x (QX.free hx)) (dm p5 ((sm2.trans sm3).free (sm4.free hp5)))
   ⟨?_,fun _=>rfl,fun _=>rfl,fun r hr => ?_,?_⟩
  ·rw [uI]
   exact (decide_eq_false (by omega)).symm
  ·rw [NB] at hr
   exact ok2 r (t2s r (E3 _ _ hr))
  ·have:=hPu.length
   rw [NB]
   have:=E4 (Vbcnan.thin [] (du [] T1))
   omega
end
section
variable {K:Frag} {C:CC} {vs:List V} {H:Hp} {Q:VK} {E:XK}
open Vbcnan (State Group Part Rule coverOf block)
theorem bG.tabled {C:CC} {H:Hp} {s:State} {A:SA} (h:bG C H s A) {t dt lr:Addr} {ts:List Addr} {too:Bool} {raw:Nat} {rows:List Vbcnan.Row} (ht:H t=some (.ins C.tb dt (qa too raw lr))) (hlr:H lr=some (.lst (ts.map V.ref))) (hP:Paired (fun q r=>H q=some (.tup (g6 r))) ts rows)
 (nts:t≠A.sw) (nlr:lr≠A.lr) (hT:L9 s too raw rows) :
 bG C (upd H A.sw (.ins C.sw A.dx (gO (.int (if s.on then (s.most:Int) else 0)) (.ref A.dg) (.ref A.lr) (.ref A.dk) (.ref t)))) s {A with im:=t::lr::(ts++A.im),kt:=.ref t}:=by
 have nxs:A.dx≠A.sw:=bR h.dx h.ins (by intro z;cases z)
 have ngs:A.dg≠A.sw:=bR h.dg h.ins (by intro z;cases z)
 have nks:A.dk≠A.sw:=bR h.dk h.ins (by intro z;cases z)
 have nls:A.lr≠A.sw:=bR h.lr h.ins (by intro z;cases z)
 generalize hH:upd H A.sw (.ins C.sw A.dx (gO (.int (if s.on then (s.most:Int) else 0)) (.ref A.dg) (.ref A.lr) (.ref A.dk) (.ref t)))=H'
 have kp:∀ b o,H b=some o->b≠A.sw->H' b=some o:=fun b o e hs=>by rw [<-hH,au hs];exact e
 have kl:∀ b xs,H b=some (HO.lst xs)->H' b=some (.lst xs):=fun b xs e=>kp b _ e (bR e h.ins (by intro z;cases z))
 have kt:∀ b xs,H b=some (HO.tup xs)->H' b=some (.tup xs):=fun b xs e=>kp b _ e (bR e h.ins (by intro z;cases z))
 have mi:∀ b,b∈A.im->b∈t::lr::(ts++A.im):=fun b hb=>by simp [hb]
 have dm:∀ b,H' b=none->H b=none:=fun b q=>by rw [<-hH] at q;exact cc q
 have:∀ {l:List Addr} {m:List Vbcnan.Row},(∀ x,x∈l->x∈ts)->Paired (fun q r=>H q=some (.tup (g6 r))) l m->Paired (fun q r=>q∈t::lr::(ts++A.im)/\H' q=some (.tup (g6 r))) l m:=by
  intro l m hs hp
  induction hp with
  |nil=>exact .nil
  |cons r t ih =>
   rename_i q p l m
   have hm:=hs q (ae.mpr (.inl rfl))
   exact .cons ⟨by simp [hm],kt _ _ r⟩ (ih fun x hx=>hs x (ae.mpr (.inr hx)))
 have hPt:=this (fun _ h=>h) hP
 exact {h with
  ins:=by rw [<-hH];exact aw
  dx:=kp _ _ h.dx nxs
  dg:=kp _ _ h.dg ngs
  lr:=kp _ _ h.lr nls
  dk:=kp _ _ h.dk nks
  li:=fun q=>by
   have q:A.lr=t\/A.lr=lr\/A.lr∈ts\/A.lr∈A.im:=by simpa using q
   rcases q with z|z|z|z
   ·rw [<-z,h.lr] at ht;cases ht
   ·exact nlr z.symm
   ·obtain ⟨_,e⟩:=qA hP z
    rw [h.lr] at e;cases e
   ·exact h.li z
  tab:=.inr ⟨t,rfl,dt,lr,too,raw,rows,by simp,kp _ _ ht nts,⟨by simp,ts,kl _ _ hlr,hPt⟩,hT⟩
  grp:=fun g hg=>by
   obtain ⟨a,a1,a0,qs,a2,a3⟩:=h.grp g hg
   exact ⟨a,a1,mi _ a0,qs,kl _ _ a2,Paired.imp (fun q p ⟨x,y⟩=>⟨mi _ x,kt _ _ y⟩) a3⟩
  rul:=Paired.imp (fun q r ⟨x,y⟩=>⟨mi _ x,kt _ _ y⟩) h.rul
  kno:=fun g hg v hv=>by
   obtain ⟨e,es,e1,e2,e3,e4⟩:=h.kno g hg v hv
   exact ⟨e,es,e1,mi _ e2,kl _ _ e3,e4⟩
  imd:=fun b hb q=>by
   have hb:b=t\/b=lr\/b∈ts\/b∈A.im:=by simpa using hb
   have q:=dm b q
   rcases hb with z|z|z|z
   ·rw [z,ht] at q;cases q
   ·rw [z,hlr] at q;cases q
   ·obtain ⟨_,e⟩:=qA hP z
    rw [e] at q;cases q
   ·exact h.imd b z q}
def aS (C:CC):Sp:=fun vs H Q _=>∃ (s:State) (A:SA),vs=[.ref A.sw]/\bG C H s A/\s.on=true/\∀ H' A' t,bG C H' s A'->Left H H' A A'->TabAt C.tb A'.im H' s t->Q (.ref t) H'
theorem qp (T:TxS K C) (h:aS C vs H Q E):gI K (eI C) (Ed Q) (start ik vs) H:=by
 obtain ⟨s,A,rfl,hA,hon,k⟩:=h
 obtain ⟨tc,n1,n2,n3,n4,n5,TT⟩:=T
 have h1:=hA.ins
 unfold gI
 rcases hA.tab with hkt|⟨t,hkt,hT⟩
 ·unfold SA.fs at h1
  rw [hkt] at h1
  have g1:=u6 (.int (if s.on then (s.most:Int) else 0)) (.ref A.dg) (.ref A.lr) (.ref A.dk) .non
  walk_at "x"
  refine ⟨s,A,rfl,hA,hon,fun H1 A1 t dt lr ts too raw rows hA1 hL1 hK1 ht hlr hP ht0 Ea Tp => ?_⟩
  have h11:=hA1.ins
  have hsw:=hL1.sw
  have nts:t≠A1.sw:=fun z=>by rw [z,hsw,hA.ins] at ht0;cases ht0
  have nlr:lr≠A1.lr:=fun z=>by rw [z,hK1.lr,hA.lr] at Ea;cases Ea
  have hA2:bG C (upd H1 A.sw (.ins C.sw A1.dx (gO (.int (if s.on then (s.most:Int) else 0)) (.ref A1.dg) (.ref A1.lr) (.ref A1.dk) (.ref t)))) s {A1 with im:=t::lr::(ts++A1.im),kt:=.ref t}:=by
   have q:=hA1.tabled ht hlr (Paired.imp (fun q r ⟨_,z⟩=>z) hP) nts nlr Tp
   have e:∀ (b:Addr),A1.sw=b->bG C (upd H1 b (.ins C.sw A1.dx (gO (.int (if s.on then (s.most:Int) else 0)) (.ref A1.dg) (.ref A1.lr) (.ref A1.dk) (.ref t)))) s {A1 with im:=t::lr::(ts++A1.im),kt:=.ref t}:=fun b z=>by subst z;exact q
   exact e _ hsw
  rw [hsw] at h11
  walk_at "x"
  refine dA h11 tc n5 (show 5<1000 by decide) ?_
  rw [lT]
  have h12:upd H1 A.sw (.ins C.sw A1.dx (gO (.int (if s.on then (s.most:Int) else 0)) (.ref A1.dg) (.ref A1.lr) (.ref A1.dk) (.ref t))) A.sw=some (.ins C.sw A1.dx (gO (.int (if s.on then (s.most:Int) else 0)) (.ref A1.dg) (.ref A1.lr) (.ref A1.dk) (.ref t))):=aw
  have g2:=u6 (.int (if s.on then (s.most:Int) else 0)) (.ref A1.dg) (.ref A1.lr) (.ref A1.dk) (.ref t)
  walk_at "x"
  refine k _ _ t hA2 ⟨hsw,fun b hb => ?_,fun b o e hb => ?_,fun b q=>hL1.dom b (cc q)⟩ ?_
  ·have hb:b∈A1.own\/b=t\/b=lr\/b∈ts:=by
    have hb:b=A1.dx\/b=A1.sw\/b=A1.dg\/b=A1.lr\/b=A1.dk\/b=t\/b=lr\/b∈ts\/b∈A1.im:=by simpa [SA.own,SA.mut,or_assoc] using hb
    rcases hb with rfl|rfl|rfl|rfl|rfl|z|z|z|z
    ·exact .inl (by simp [SA.own])
    ·exact .inl (by simp [SA.own,SA.mut])
    ·exact .inl (by simp [SA.own,SA.mut])
    ·exact .inl (by simp [SA.own,SA.mut])
    ·exact .inl (by simp [SA.own,SA.mut])
    ·exact .inr (.inl z)
    ·exact .inr (.inr (.inl z))
    ·exact .inr (.inr (.inr z))
    ·exact .inl (by simp [SA.own,z])
   rcases hb with z|z|z|z
   ·exact hL1.grow b z
   ·rw [z];exact .inr ht0
   ·rw [z];exact .inr Ea
   ·obtain ⟨_,e,_⟩:=qA hP z
    exact .inr e
  ·rw [au (fun q=>hb (by rw [q];simp [SA.own,SA.mut]))]
   exact hL1.keep b o e hb
  ·rcases hA2.tab with z|⟨t',z1,z2⟩
   ·cases z
   ·cases z1
    exact z2
 ·unfold SA.fs at h1
  rw [hkt] at h1
  have g1:=u6 (.int (if s.on then (s.most:Int) else 0)) (.ref A.dg) (.ref A.lr) (.ref A.dk) (.ref t)
  walk_at "x"
  exact k H A t hA (Left.refl H A) hT
end
section
variable {K:Frag} {C:CC} {vs:List V} {H:Hp} {Q:VK} {E:XK}
open Vbcnan (State Group Part Rule coverOf block)
def ou (C:CC) (c:Vbcnan.Call):Sp:=fun vs H Q _=>∃ (s:State) (A:SA),vs=[.ref A.sw]/\bG C H s A/\s.on=true/\Ans C H (Vbcnan.doing s c).1 A (Vbcnan.doing s c).2 Q
theorem zt (T:TxS K C) (h:ou C .rows vs H Q E):md K C.sw (aS C) (Ed Q) (start nX vs) H:=by
 obtain ⟨s,A,rfl,hA,hon,k⟩:=h
 obtain ⟨tc,n1,n2,n3,n4,n5,TT⟩:=T
 obtain ⟨tb,m1,m2,m3⟩:=TT
 have hz:=sizeLine_eq
 have h1:=hA.ins
 have e:Vbcnan.doing s .rows=if s.most<Vbcnan.rawCount s then (s,[-1]) else (s,[0,((Vbcnan.rawRows s).length:Int),((Vbcnan.table s).length:Int)]):=rfl
 unfold md
 walk_at "x"
 refine ⟨s,A,rfl,hA,hon,fun H1 A1 t hA1 hL1 hT => ?_⟩
 obtain ⟨dt,lr,too,raw,rows,t1,t2,⟨t3,ts,t4,t5⟩,t6⟩:=hT
 have f1:(qa too raw lr).lookup ("too_many":Str)=some (.bl too):=rfl
 have f2:(qa too raw lr).lookup ("raw_count":Str)=some (.int raw):=rfl
 have f3:(qa too raw lr).lookup ("rows":Str)=some (.ref lr):=rfl
 have k1:=k.after hL1
 have htl:(ts.map V.ref).length=rows.length:=by rw [ab];exact t5.length
 have sq:SqL K H1 lr (ts.map V.ref):=SqL.of t4
 have eqt:=t6.eqt
 walk_at "x"
 cases too with
 |true =>
  rw [e,if_pos (of_decide_eq_true eqt.symm)] at k1
  walk_at "x"
  exact k1.fin hA1
 |false =>
  rw [e,if_neg (of_decide_eq_false eqt.symm)] at k1
  walk_at "x"
  rw [htl,t6.eqr rfl,t6.eqw rfl]
  exact k1.fin hA1
def eM (C:CC):Sp:=fun vs H Q _=>∃ (s:State) (A:SA) (i:Int),vs=[.ref A.sw,.int i]/\bG C H s A/\s.on=true/\Ans C H (Vbcnan.doing s (.row i)).1 A (Vbcnan.doing s (.row i)).2 Q
theorem rb (b:Bool):((b.toNat:Nat):Int)=if b=true then 1 else 0:=by cases b<;>rfl
theorem Bt (T:TxS K C) (h:eM C vs H Q E):ny K C.sw (aS C) (bT K) (Ed Q) (start pJ vs) H:=by
 obtain ⟨s,A,i,rfl,hA,hon,k⟩:=h
 obtain ⟨tc,n1,n2,n3,n4,n5,TT⟩:=T
 obtain ⟨tb,m1,m2,m3⟩:=TT
 have hz:=sizeLine_eq
 have h1:=hA.ins
 have e:Vbcnan.doing s (.row i)=if s.most<Vbcnan.rawCount s then (s,[-1]) else match (if 0<=i then (Vbcnan.table s)[i.toNat]? else none) with
  |none=>(s,[-2])
  |some r=>(s,[0,(r.pass.toNat:Int)]++Vbcnan.fieldShown r.src++Vbcnan.fieldShown r.dst++Vbcnan.fieldShown r.kind++Vbcnan.fieldShown r.port):=rfl
 unfold ny
 walk_at "x"
 refine ⟨s,A,rfl,hA,hon,fun H1 A1 t hA1 hL1 hT => ?_⟩
 obtain ⟨dt,lr,too,raw,rows,t1,t2,⟨t3,ts,t4,t5⟩,t6⟩:=hT
 have f1:(qa too raw lr).lookup ("too_many":Str)=some (.bl too):=rfl
 have f3:(qa too raw lr).lookup ("rows":Str)=some (.ref lr):=rfl
 have k1:=k.after hL1
 have htl:ts.length=rows.length:=t5.length
 have sq:SqL K H1 lr (ts.map V.ref):=SqL.of t4
 have eqt:=t6.eqt
 walk_at "x"
 cases too with
 |true =>
  rw [e,if_pos (of_decide_eq_true eqt.symm)] at k1
  walk_at "x"
  exact k1.fin hA1
 |false =>
  rw [e,if_neg (of_decide_eq_false eqt.symm),<-t6.eqw rfl] at k1
  by_cases c1:0<=i
  ·rw [if_pos c1] at k1
   by_cases c2:i<(rows.length:Int)
   ·obtain ⟨n,rfl⟩:∃ n:Nat,i=(n:Int):=⟨i.toNat,by omega⟩
    rw [aD] at k1
    obtain ⟨r,hr⟩:∃ r,rows[n]? = some r:=⟨_,aC (by omega)⟩
    rw [hr] at k1
    obtain ⟨q,hq⟩:∃ q,ts[n]? = some q:=⟨_,aC (by omega)⟩
    obtain ⟨r',hr',_,hqr⟩:=Paired.get t5 hq
    have er:r'=r:=ax (hr'.symm.trans hr)
    subst er
    have FY:=t6.ok r' (aJ hr)
    have hat:atI (ts.map V.ref) (n:Int)=some (.ref q):=vt (by rw [a9,hq];rfl)
    have hqs:SqT K H1 q [.int (if r'.pass then 1 else 0),.int (pv r':Nat),.int (pm r':Nat)]:=SqT.of hqr
    walk_at "x"
    refine ⟨by show 2<=sizeLine;omega,fun p hp => ?_⟩
    have smp:=br (o:=.lst [.int 0,.int (if r'.pass then 1 else 0)]) (bf.refl H1) hp
    have hpl:upd H1 p (.lst [.int 0,.int (if r'.pass then 1 else 0)]) p=some (.lst [.int 0,.int (if r'.pass then 1 else 0)]):=aw
    generalize upd H1 p (.lst [.int 0,.int (if r'.pass then 1 else 0)])=H2 at smp hpl ⊢
    walk_at "x"
    refine ⟨q,r',rfl,SqT.of (smp _ _ hqr),FY,fun H3 fa sm3 hfa hF => ?_⟩
    obtain ⟨us,hus,hPu⟩:=hF
    have hul:us.length=4:=hPu.length
    have sqf:SqL K H3 fa (us.map V.ref):=SqL.of hus
    have nfp:fa≠p:=fun z=>by rw [z,hpl] at hfa;cases hfa
    have ME:=smp.trans sm3
    walk_at "x"
    refine dO (K:=K) (a:=fa) (xs:=us.map V.ref) (fun i σ H'=>∃ v5:Option V,σ = [some (.ref A.sw),some (.int (n:Int)),some (.ref t),some (.ref q),some (.ref p),v5]/\(∀ b o,H3 b=some o->b≠p->H' b=some o)/\bf H1 H'/\H' p=some (.lst ([.int 0,.int (if r'.pass then 1 else 0)]++((eC r').take i).flatMap tP)))
     ⟨none,rfl,fun b o e _=>e,ME,sm3 _ _ hpl⟩ (fun i σ H' _ ⟨_,_,kp,_⟩=>SqL.of (kp _ _ hus nfp)) ?_ ?_
    ·rintro j x σ H' hx ⟨v5,rfl,kp,smj,hpj⟩
     obtain ⟨u,rfl,hu⟩:=cX hx
     obtain ⟨f,hf,_,huf⟩:=Paired.get hPu hu
     have hjl:=(ak.mp hu).1
     have SF:=kp _ _ huf (bR huf (sm3 _ _ hpl) (by intro z;cases z))
     have Rx:(((eC r').take j).flatMap tP).length<=((eC r').take j).length*2:=mB fun x _=>ay 2
     rw [bL] at Rx
     walk_at "x"
     refine Cq hpj (SqT.of SF) (by rw [aG];show 2+_+2<=sizeLine;omega) ?_
     refine ⟨_,rfl,fun b o e hb=>by rw [au hb];exact kp b o e hb,eY smj hp,?_⟩
     rw [aw,cQ,hf,da]
     simp
    ·rintro σ H' ⟨v5,rfl,kp,smj,hpj⟩
     rw [a8 (by rw [ab,hul];exact ay 4)] at hpj
     walk_at "x"
     refine k1 H' A1 p (hA1.same fun b o _ e=>smj b o e) (Left.of_same A1 smj) hp ?_
     rw [hpj]
     show _=some (HO.lst (([0,((r'.pass.toNat:Nat):Int)]++Vbcnan.fieldShown r'.src++Vbcnan.fieldShown r'.dst++Vbcnan.fieldShown r'.kind++Vbcnan.fieldShown r'.port).map V.int))
     rw [rb]
     rfl
   ·rw [eR (by omega)] at k1
    walk_at "x"
    exact k1.fin hA1
  ·rw [if_neg c1] at k1
   walk_at "x"
   exact k1.fin hA1
theorem xD {α : Type} {f g : α -> Bool}:∀ {l:List α} {n:Nat},(∀ x,x∈l->f x=g x)->Vbcnan.firstAt f n l=Vbcnan.firstAt g n l
 | [],n,_=>rfl
 |x::l,n,h=>by
  unfold Vbcnan.firstAt
  rw [h x (ae.mpr (.inl rfl)),xD fun y hy=>h y (ae.mpr (.inr hy))]
theorem C0 {α : Type} {f : α -> Bool}:∀ {l:List α} {n i:Nat} {x : α},Vbcnan.firstAt f n l=some (i,x)->n<=i/\l[i-n]? = some x
 | [],n,i,x,h=>by cases h
 |y::l,n,i,x,h=>by
  unfold Vbcnan.firstAt at h
  split at h
  ·cases h
   exact ⟨ay _,by rw [Nat.sub_self];rfl⟩
  ·obtain ⟨h1,h2⟩:=C0 h
   refine ⟨by omega,?_⟩
   have:i-n=(i-(n+1))+1:=by omega
   rw [this]
   exact h2
def dJ (C:CC):Sp:=fun vs H Q _=>∃ (s:State) (A:SA) (a b c d:Int),vs=[.ref A.sw,.int a,.int b,.int c,.int d]/\bG C H s A/\s.on=true/\Ans C H (Vbcnan.doing s (.look a b c d)).1 A (Vbcnan.doing s (.look a b c d)).2 Q
theorem zH {a b c d:Int} {x:Vbcnan.Packet} (h:Vbcnan.packetOf a b c d=some x):a=(x.src:Int)/\b=(x.dst:Int)/\c=(x.kind:Int)/\d=(x.port:Int)/\Lt4 x.src x.dst x.kind x.port:=by
 unfold Vbcnan.packetOf at h
 split at h
 ·rename_i hc
  cases h
  simp only [aE,Vbcnan.isAddr,ft] at hc
  refine ⟨?_,?_,?_,?_,⟨?_,?_,?_,?_⟩⟩<;>simp only<;>omega
 ·cases h
theorem zw (T:TxS K C) (h:dJ C vs H Q E):mf K C.sw cx (aS C) bg fQ (Ed Q) (start nZ vs) H:=by
 obtain ⟨s,A,a,b,c,d,rfl,hA,hon,k⟩:=h
 obtain ⟨tc,n1,n2,n3,n4,n5,TT⟩:=T
 obtain ⟨tb,m1,m2,m3⟩:=TT
 have hz:=sizeLine_eq
 have h1:=hA.ins
 have e:Vbcnan.doing s (.look a b c d)=match Vbcnan.packetOf a b c d with
  |none=>(s,[-2])
  |some x =>
   if s.most<Vbcnan.rawCount s then (s,[-1])
   else (s,[0,((Vbcnan.tablePasses (Vbcnan.table s) x).toNat:Int),placeOf (Vbcnan.looks (Vbcnan.table s) x)]):=by
  have e0:Vbcnan.doing s (.look a b c d)=match Vbcnan.packetOf a b c d with
   |none=>(s,[-2])
   |some x =>
    if s.most<Vbcnan.rawCount s then (s,[-1])
    else (s,[0,((Vbcnan.tablePasses (Vbcnan.table s) x).toNat:Int),(match Vbcnan.looks (Vbcnan.table s) x with
     |some (i,_)=>(i:Int)
     |none=>-1)]):=rfl
  rw [e0]
  cases Vbcnan.packetOf a b c d with
  |none=>rfl
  |some x =>
   cases hq:Vbcnan.looks (Vbcnan.table s) x with
   |none=>simp only [hq];rfl
   |some y=>simp only [hq];rfl
 unfold mf
 walk_at "x"
 refine ⟨a,b,c,d,rfl,?_⟩
 walk_at "x"
 cases hpk:Vbcnan.packetOf a b c d with
 |none =>
  rw [e,hpk] at k
  walk_at "x"
  exact k.fin hA
 |some x =>
  rw [e,hpk] at k
  obtain ⟨rfl,rfl,rfl,rfl,hL4⟩:=zH hpk
  walk_at "x"
  refine ⟨s,A,rfl,hA,hon,fun H1 A1 t hA1 hL1 hT => ?_⟩
  obtain ⟨dt,lr,too,raw,rows,t1,t2,⟨t3,ts,t4,t5⟩,t6⟩:=hT
  have f1:(qa too raw lr).lookup ("too_many":Str)=some (.bl too):=rfl
  have f3:(qa too raw lr).lookup ("rows":Str)=some (.ref lr):=rfl
  have k1:=k.after hL1
  have htl:ts.length=rows.length:=t5.length
  have eqt:=t6.eqt
  walk_at "x"
  cases too with
  |true =>
   have k1:Ans C H1 (if s.most<Vbcnan.rawCount s then (s,[-1]) else (s,[0,((Vbcnan.tablePasses (Vbcnan.table s) x).toNat:Int),placeOf (Vbcnan.looks (Vbcnan.table s) x)])).1 A1 (if s.most<Vbcnan.rawCount s then (s,[-1]) else (s,[0,((Vbcnan.tablePasses (Vbcnan.table s) x).toNat:Int),placeOf (Vbcnan.looks (Vbcnan.table s) x)])).2 Q:=k1
   rw [if_pos (of_decide_eq_true eqt.symm)] at k1
   walk_at "x"
   exact k1.fin hA1
  |false =>
   have k1:Ans C H1 (if s.most<Vbcnan.rawCount s then (s,[-1]) else (s,[0,((Vbcnan.tablePasses (Vbcnan.table s) x).toNat:Int),placeOf (Vbcnan.looks (Vbcnan.table s) x)])).1 A1 (if s.most<Vbcnan.rawCount s then (s,[-1]) else (s,[0,((Vbcnan.tablePasses (Vbcnan.table s) x).toNat:Int),placeOf (Vbcnan.looks (Vbcnan.table s) x)])).2 Q:=k1
   rw [if_neg (of_decide_eq_false eqt.symm),<-t6.eqw rfl] at k1
   have Rv:Vbcnan.looks rows x=Vbcnan.firstAt (fun r=>decide (pp x &&& pm r=pv r)) 0 rows:=xD fun r hr=>NA (t6.ok r hr) hL4
   unfold Vbcnan.tablePasses at k1
   rw [Rv] at k1
   walk_at "x"
   refine ⟨x.src,x.dst,x.kind,x.port,rfl,hL4,?_⟩
   walk_at "x"
   refine ⟨lr,rows,pp x,rfl,⟨ts,t4,Paired.imp (fun q r ⟨_,z⟩=>z) t5⟩,fun H2 sm2 => ?_⟩
   have hA2:bG C H2 s A1:=hA1.same fun b o _ e=>sm2 b o e
   have t22:=sm2 _ _ t2
   have sq2:SqL K H2 lr (ts.map V.ref):=SqL.of (sm2 _ _ t4)
   cases hfi:Vbcnan.firstAt (fun r=>decide (pp x &&& pm r=pv r)) 0 rows with
   |none =>
    rw [hfi] at k1
    have ep:placeOf (none:Option (Nat×Vbcnan.Row))=-1:=rfl
    rw [ep] at k1 ⊢
    walk_at "x"
    exact (k1.more sm2).fin hA2
   |some ir =>
    obtain ⟨i,r⟩:=ir
    rw [hfi] at k1
    obtain ⟨_,hir⟩:=C0 hfi
    rw [Nat.sub_zero] at hir
    obtain ⟨q,hq⟩:∃ q,ts[i]? = some q:=⟨_,aC (by have:=(ak.mp hir).1;omega)⟩
    obtain ⟨r',hr',_,hqr⟩:=Paired.get t5 hq
    have er:r'=r:=ax (hr'.symm.trans hir)
    subst er
    have hat:atI (ts.map V.ref) (i:Int)=some (.ref q):=vt (by rw [a9,hq];rfl)
    have hqs:SqT K H2 q [.int (if r'.pass then 1 else 0),.int (pv r':Nat),.int (pm r':Nat)]:=SqT.of (sm2 _ _ hqr)
    have ep:placeOf (some (i,r'))=(i:Int):=rfl
    rw [ep] at k1 ⊢
    have k1:Ans C H1 s A1 [0,((r'.pass.toNat:Nat):Int),(i:Int)] Q:=k1
    rw [rb] at k1
    walk_at "x"
    exact (k1.more sm2).fin hA2
end
section
variable {K:Frag} {C:CC} {vs:List V} {H:Hp} {Q:VK} {E:XK}
open Vbcnan (State Group Part Rule coverOf block)
def eh:Sp:=fun vs H Q _=>∃ (o:Option Nat) (d:Addr) (kvs:List (Key×V)) (f:Nat->Bool),vs=[eZ o,.ref d]/\H d=some (.dK kvs)/\(∀ g,o=some g->b0 kvs (Sum.inl (g:Int))=some (.bl (f g)))/\Q (.bl (o.all f)) H
theorem DY (h:eh vs H Q E):oO K (Ed Q) (start qZ vs) H:=by
 obtain ⟨o,d,kvs,f,rfl,hd,hv,k⟩:=h
 unfold oO
 cases o with
 |none =>
  unfold eZ
  walk_at "x"
  exact k
 |some g =>
  have hg:=hv g rfl
  unfold eZ
  walk_at "x"
  exact k
theorem oZ (o:Option Nat):eZ o=.int (Vbcnan.optShown o):=by cases o<;>rfl
theorem xT (T:TxS K C) (h:ou C .rules vs H Q E):kS K (Ed Q) (start mG vs) H:=by
 obtain ⟨s,A,rfl,hA,hon,k⟩:=h
 obtain ⟨tc,n1,n2,n3,n4,n5,TT⟩:=T
 have hz:=sizeLine_eq
 have h1:=hA.ins
 have g1:=hA.gi
 have hls:SqL K H A.lr (A.rs.map V.ref):=SqL.of hA.lr
 have hrl:A.rs.length=s.rules.length:=hA.rul.length
 have Ht:=hA.wr.few
 have e:Vbcnan.doing s .rules=(s,[0,(s.rules.length:Int)]++s.rules.flatMap fun r=>[(r.pass.toNat:Int),Vbcnan.optShown r.src,Vbcnan.optShown r.dst,Vbcnan.optShown r.kind,(r.lo:Int),(r.hi:Int)]):=rfl
 rw [e] at k
 unfold kS
 walk_at "x"
 rw [ab,hrl]
 refine ⟨by show 2<=sizeLine;omega,fun p hp => ?_⟩
 have sm0:=br (o:=.lst [.int 0,.int (s.rules.length:Int)]) (bf.refl H) hp
 have hp0:upd H p (.lst [.int 0,.int (s.rules.length:Int)]) p=some (.lst [.int 0,.int (s.rules.length:Int)]):=aw
 generalize upd H p (.lst [.int 0,.int (s.rules.length:Int)])=H0 at sm0 hp0 ⊢
 have h10:=sm0 _ _ h1
 have Ud:SqL K H0 A.lr (A.rs.map V.ref):=SqL.of (sm0 _ _ hA.lr)
 walk_at "x"
 refine dO (K:=K) (a:=A.lr) (xs:=A.rs.map V.ref) (fun i σ H'=>∃ v2:Option V,σ = [some (.ref A.sw),some (.ref p),v2]/\bf H H'/\H' p=some (.lst (([0,(s.rules.length:Int)]++(s.rules.take i).flatMap fun r=>[(r.pass.toNat:Int),Vbcnan.optShown r.src,Vbcnan.optShown r.dst,Vbcnan.optShown r.kind,(r.lo:Int),(r.hi:Int)]).map V.int)))
  ⟨none,rfl,sm0,hp0⟩ (fun i σ H' _ ⟨_,_,hS,_⟩=>SqL.of (hS _ _ hA.lr)) ?_ ?_
 ·rintro i x σ H' hx ⟨v2,rfl,hS,hp1⟩
  obtain ⟨q,rfl,hq⟩:=cX hx
  obtain ⟨r,hr,_,hqr⟩:=Paired.get hA.rul hq
  have hil:=(ak.mp hr).1
  have hlen:((s.rules.take i).flatMap fun r=>[(r.pass.toNat:Int),Vbcnan.optShown r.src,Vbcnan.optShown r.dst,Vbcnan.optShown r.kind,(r.lo:Int),(r.hi:Int)]).length<=(s.rules.take i).length*6:=mB fun x _=>ay 6
  rw [bL] at hlen
  walk_at "x"
  refine Cq hp1 (SqT.of (hS _ _ hqr)) (by rw [ab,aG];show 2+_+6<=sizeLine;omega) ?_
  refine ⟨_,rfl,eY hS hp,?_⟩
  rw [aw,cQ,hr,da]
  have er:qm r=[(r.pass.toNat:Int),Vbcnan.optShown r.src,Vbcnan.optShown r.dst,Vbcnan.optShown r.kind,(r.lo:Int),(r.hi:Int)].map V.int:=by
   unfold qm
   rw [oZ,oZ,oZ,rb]
   rfl
  rw [er]
  simp
 ·rintro σ H' ⟨v2,rfl,hS,hp1⟩
  rw [a8 (by rw [ab];omega)] at hp1
  walk_at "x"
  exact k H' A p (hA.same fun b o _ e=>hS b o e) (Left.of_same A hS) hp hp1
def eN (C:CC):Sp:=fun vs H Q _=>∃ (s:State) (A:SA) (a b c d:Int),vs=[.ref A.sw,.int a,.int b,.int c,.int d]/\bG C H s A/\s.on=true/\Ans C H (Vbcnan.doing s (.ask a b c d)).1 A (Vbcnan.doing s (.ask a b c d)).2 Q
theorem Bu (T:TxS K C) (h:eN C vs H Q E):nz K C.sw cx (aU C) eh (Ed Q) (start pK vs) H:=by
 obtain ⟨s,A,a,b,c,d,rfl,hA,hon,k⟩:=h
 obtain ⟨tc,n1,n2,n3,n4,n5,TT⟩:=T
 have hz:=sizeLine_eq
 have h1:=hA.ins
 have g1:=hA.gi
 have hrl:A.rs.length=s.rules.length:=hA.rul.length
 have e:Vbcnan.doing s (.ask a b c d)=match Vbcnan.packetOf a b c d with
  |none=>(s,[-1])
  |some x=>(s,[0,((Vbcnan.passes s x).toNat:Int),placeOf (Vbcnan.decides s x)]):=by
  have e0:Vbcnan.doing s (.ask a b c d)=match Vbcnan.packetOf a b c d with
   |none=>(s,[-1])
   |some x=>(s,[0,((Vbcnan.passes s x).toNat:Int),(match Vbcnan.decides s x with
    |some (i,_)=>(i:Int)
    |none=>-1)]):=rfl
  rw [e0]
  cases Vbcnan.packetOf a b c d with
  |none=>rfl
  |some x =>
   cases hq:Vbcnan.decides s x with
   |none=>simp only [hq];rfl
   |some y=>simp only [hq];rfl
 unfold nz
 walk_at "x"
 refine ⟨a,b,c,d,rfl,?_⟩
 walk_at "x"
 cases hpk:Vbcnan.packetOf a b c d with
 |none =>
  rw [e,hpk] at k
  walk_at "x"
  exact k.fin hA
 |some x =>
  rw [e,hpk] at k
  obtain ⟨rfl,rfl,rfl,rfl,hL4⟩:=zH hpk
  have k:Ans C H s A [0,((Vbcnan.passes s x).toNat:Int),placeOf (Vbcnan.decides s x)] Q:=k
  unfold Vbcnan.passes at k
  walk_at "x"
  refine ⟨s,A,x.src,rfl,hA,fun H1 d1 kv1 sm1 Ug hd1 hv1 => ?_⟩
  have hA1:bG C H1 s A:=hA.same fun b o _ e=>sm1 b o e
  have h11:=hA1.ins
  walk_at "x"
  refine ⟨s,A,x.dst,rfl,hA1,fun H2 d2 kv2 sm2 Ue hd2 hv2 => ?_⟩
  have OV:=sm1.trans sm2
  have hA2:bG C H2 s A:=hA.same fun b o _ e=>OV b o e
  have h12:=hA2.ins
  have Tj:=sm2 _ _ hd1
  have hls:SqL K H2 A.lr (A.rs.map V.ref):=SqL.of hA2.lr
  walk_at "x"
  refine Ks ?_
  walk_at "x"
  refine ⟨A.lr,_,rfl,hls,?_⟩
  refine o7 (J:=Ite K A.lr) (n:=A.rs.length) (fun i σ H'=>∃ v7 v8 v9:Option V,σ = [some (.ref A.sw),some (.int x.src),some (.int x.dst),some (.int x.kind),some (.int x.port),some (.ref d1),some (.ref d2),v7,v8,v9]/\bf H2 H'/\∀ (j:Nat) r,j<i->s.rules[j]? = some r->r.fits s.groups x=false)
   ⟨none,none,none,rfl,bf.refl H2,fun j r hj=>(by omega)⟩ (fun i σ H' hi ⟨_,_,_,_,hS,_⟩=>⟨A.rs.map V.ref,_,SqL.of (hS _ _ hA2.lr),aC (by rw [ab];exact hi)⟩) (fun σ H' ⟨_,_,_,_,hS,_⟩=>⟨A.rs.map V.ref,SqL.of (hS _ _ hA2.lr),by rw [ab];exact ay _⟩) ?_ ?_
  ·rintro i y σ H3 H' hi ⟨v7,v8,v9,rfl,hS,hno⟩ ⟨U,z,rfl,hU,rfl,hy⟩
   have hx:=hy _ (SqL.of (hS _ _ hA2.lr))
   obtain ⟨q,rfl,hq⟩:=cX hx
   obtain ⟨r,hr,_,hqr⟩:=Paired.get hA2.rul hq
   have hrm:r∈s.rules:=aJ hr
   have sm:=br (o:=.tup [.int (i:Nat),.ref q]) hS hU
   have hUs:SqT K (upd H3 U (.tup [.int (i:Nat),.ref q])) U [.int (i:Nat),.ref q]:=SqT.of aw
   generalize upd H3 U (.tup [.int (i:Nat),.ref q])=H4 at sm hUs ⊢
   have hq4:SqT K H4 q [.int (if r.pass then 1 else 0),eZ r.src,eZ r.dst,eZ r.kind,.int r.lo,.int r.hi]:=SqT.of (sm _ _ hqr)
   have i3:atI [V.int (if r.pass then 1 else 0),eZ r.src,eZ r.dst,eZ r.kind,.int r.lo,.int r.hi] 3=some (.int (Vbcnan.optShown r.kind)):=by rw [<-oZ];rfl
   have Ti:=sm _ _ Tj
   have Th:=sm _ _ hd2
   have mC:r.fits s.groups x=((r.src.all fun g=>Vbcnan.isIn s.groups g x.src)&&((r.dst.all fun g=>Vbcnan.isIn s.groups g x.dst)&&((r.kind.all fun k=>k==x.kind)&&(decide (r.lo<=x.port)&&decide (x.port<=r.hi))))):=rfl
   have yes:r.fits s.groups x=true->∀ p,H4 p=none->Q (.ref p) (upd H4 p (.lst [.int 0,.int (if r.pass then 1 else 0),.int (i:Nat)])):=fun hf p hp=>by
    have LJ:Vbcnan.decides s x=some (i,r):=by
     have:=z7 (f:=fun r=>r.fits s.groups x) (n:=0) (i:=i) hno hr hf
     rw [kO] at this
     exact this
    rw [LJ] at k
    have k:Ans C H s A [0,((r.pass.toNat:Nat):Int),(i:Int)] Q:=k
    rw [rb] at k
    have KL:=OV.trans sm
    exact (k.more KL).give (hA.same fun b o _ e=>KL b o e) hp
   have no:r.fits s.groups x=false->∀ w7 w8 w9:Option V,∃ v7 v8 v9:Option V,[some (V.ref A.sw),some (.int x.src),some (.int x.dst),some (.int x.kind),some (.int x.port),some (.ref d1),some (.ref d2),w7,w8,w9]=[some (.ref A.sw),some (.int x.src),some (.int x.dst),some (.int x.kind),some (.int x.port),some (.ref d1),some (.ref d2),v7,v8,v9]/\bf H2 H4/\∀ (j:Nat) r,j<i+1->s.rules[j]? = some r->r.fits s.groups x=false:=fun hf w7 w8 w9=>by
    refine ⟨w7,w8,w9,rfl,sm,fun j r' hj hr' => ?_⟩
    rcases aZ j i with z|z
    ·exact hno j r' z hr'
    ·have:j=i:=by omega
     subst this
     rw [hr] at hr'
     cases hr'
     exact hf
   have gs1:∀ g,r.src=some g->b0 kv1 (Sum.inl (g:Int))=some (.bl (Vbcnan.isIn s.groups g x.src)):=fun g hg=>by
    obtain ⟨u,hu,rfl⟩:=hA.wr.src r hrm g hg
    exact hv1 u hu
   have gs2:∀ g,r.dst=some g->b0 kv2 (Sum.inl (g:Int))=some (.bl (Vbcnan.isIn s.groups g x.dst)):=fun g hg=>by
    obtain ⟨u,hu,rfl⟩:=hA.wr.dst r hrm g hg
    exact hv2 u hu
   have ek:(r.kind.all fun k=>k==x.kind)=(decide (Vbcnan.optShown r.kind=-1) || decide (Vbcnan.optShown r.kind=(x.kind:Int))):=by
    cases r.kind with
    |none=>rfl
    |some kk =>
     show (kk==x.kind)=(decide ((kk:Int)=-1) || decide ((kk:Int)=(x.kind:Int)))
     rw [decide_eq_false (by omega:¬(kk:Int)=-1),Bool.false_or,bU,beq_iff_eq,decide_eq_true_iff]
     omega
   walk_at "x"
   refine ⟨r.src,d1,kv1,fun g=>Vbcnan.isIn s.groups g x.src,rfl,Ti,gs1,?_⟩
   walk_at "x"
   cases c1:(r.src.all fun g=>Vbcnan.isIn s.groups g x.src) with
   |false =>
    rw [c1] at mC
    walk_at "x"
    exact no mC _ _ _
   |true =>
    rw [c1] at mC
    walk_at "x"
    refine ⟨r.dst,d2,kv2,fun g=>Vbcnan.isIn s.groups g x.dst,rfl,Th,gs2,?_⟩
    walk_at "x"
    cases c2:(r.dst.all fun g=>Vbcnan.isIn s.groups g x.dst) with
    |false =>
     rw [c2] at mC
     walk_at "x"
     exact no mC _ _ _
    |true =>
     rw [c2,ek] at mC
     have fin:(decide (Vbcnan.optShown r.kind=-1) || decide (Vbcnan.optShown r.kind=(x.kind:Int)))=true->∀ (w7 w8 w9:Option V),True:=fun _ _ _ _=>trivial
     by_cases c3:Vbcnan.optShown r.kind=-1
     ·rw [decide_eq_true c3,Bool.true_or,lS,lS,lS] at mC
      by_cases c4:r.lo<=x.port
      ·by_cases c5:x.port<=r.hi
       ·rw [decide_eq_true c4,decide_eq_true c5] at mC
        walk_at "x"
        exact ⟨by show 3<=sizeLine;omega,yes mC⟩
       ·rw [decide_eq_false c5,Bool.and_false] at mC
        walk_at "x"
        exact no mC _ _ _
      ·rw [decide_eq_false c4,Bool.false_and] at mC
       walk_at "x"
       exact no mC _ _ _
     ·rw [decide_eq_false c3,Bool.false_or,lS,lS] at mC
      by_cases c6:Vbcnan.optShown r.kind=(x.kind:Int)
      ·rw [decide_eq_true c6,lS] at mC
       by_cases c4:r.lo<=x.port
       ·by_cases c5:x.port<=r.hi
        ·rw [decide_eq_true c4,decide_eq_true c5] at mC
         walk_at "x"
         exact ⟨by show 3<=sizeLine;omega,yes mC⟩
        ·rw [decide_eq_false c5,Bool.and_false] at mC
         walk_at "x"
         exact no mC _ _ _
       ·rw [decide_eq_false c4,Bool.false_and] at mC
        walk_at "x"
        exact no mC _ _ _
      ·rw [decide_eq_false c6,Bool.false_and] at mC
       walk_at "x"
       exact no mC _ _ _
  ·rintro σ H' ⟨v7,v8,v9,rfl,hS,hno⟩
   have LJ:Vbcnan.decides s x=none:=tQ (f:=fun r:Rule=>r.fits s.groups x) (l:=s.rules) (n:=0) fun j r hr=>hno j r (by have:=(ak.mp hr).1;omega) hr
   rw [LJ] at k
   have k:Ans C H s A [0,0,-1] Q:=k
   have KL:=OV.trans hS
   walk_at "x"
   exact (k.more KL).fin (hA.same fun b o _ e=>KL b o e)
end
section
variable {K:Frag} {C:CC} {vs:List V} {H:Hp} {Q:VK} {E:XK}
open Vbcnan (State Group Part Rule)
def cW (C:CC):Sp:=fun vs H Q _=>∃ (s:State) (A:SA) (q:Mt.PC) (c:Vbcnan.Call) (a1 a2:Addr),vs=[.ref A.sw,.int q.n,.ref a1,.ref a2]/\bG C H s A/\s.on=true/\Kind q c/\1<=q.n/\q.n<=5/\H a1=some (.lst (q.xs.map V.int))/\H a2=some (.lst (q.ps.map V.int))/\Ans C H (Vbcnan.doing s c).1 A (Vbcnan.doing s c).2 Q
def cn (C:CC):Sp:=fun vs H Q _=>∃ (s:State) (A:SA) (q:Mt.PC) (c:Vbcnan.Call) (a1:Addr),vs=[.ref A.sw,.int q.n,.ref a1]/\bG C H s A/\s.on=true/\Kind q c/\6<=q.n/\q.n<=12/\H a1=some (.lst (q.xs.map V.int))/\Ans C H (Vbcnan.doing s c).1 A (Vbcnan.doing s c).2 Q
def cA (C:CC):Sp:=fun vs H Q _=>∃ (s:State) (A:SA) (q:Mt.PC) (c:Vbcnan.Call) (a1:Addr),vs=[.ref A.sw,.int q.n,.ref a1]/\bG C H s A/\s.on=true/\Kind q c/\13<=q.n/\H a1=some (.lst (q.xs.map V.int))/\Ans C H (Vbcnan.doing s c).1 A (Vbcnan.doing s c).2 Q
theorem wb (h:cW C vs H Q E):jS K (dj C) (eW C .nogroup) (dI C) (eW C .norule) (gf C .move) (Ed Q) (start ll vs) H:=by
 obtain ⟨s,A,q,c,a1,a2,rfl,hA,hon,hk,hlo,hhi,h1,h2,k⟩:=h
 unfold jS
 cases hk with
 |group a hn hx =>
  rw [hx] at h1
  have s1:SqL K H a1 [.int a]:=SqL.of h1
  walk_at "x"
  exact ⟨s,A,a,a2,q.ps,rfl,hA,h2,k⟩
 |nogroup a hn hx =>
  rw [hx] at h1
  have s1:SqL K H a1 [.int a]:=SqL.of h1
  walk_at "x"
  exact ⟨s,A,a,rfl,hA,k⟩
 |rule a b c d e f g hn hx =>
  rw [hx] at h1
  have s1:SqL K H a1 [.int a,.int b,.int c,.int d,.int e,.int f,.int g]:=SqL.of h1
  walk_at "x"
  refine Cp s1 fun p1 hp1 => ?_
  have ec:rT [V.int a,.int b,.int c,.int d,.int e,.int f,.int g] (some 1) none=[V.int b,.int c,.int d,.int e,.int f,.int g]:=rfl
  rw [ec]
  have sm1:=br (o:=.lst [V.int b,.int c,.int d,.int e,.int f,.int g]) (bf.refl H) hp1
  walk_at "x"
  refine Kp (SqL.of aw) fun t ht => ?_
  have sm2:=br (o:=.tup [V.int b,.int c,.int d,.int e,.int f,.int g]) sm1 ht
  walk_at "x"
  exact ⟨s,A,H,a,t,b,c,d,e,f,g,rfl,hA.same fun b o _ q=>sm2 b o q,sm2,sm1.free ht,aw,(by rw [hA.lr];exact fun q=>nomatch q),k⟩
 |norule a hn hx =>
  rw [hx] at h1
  have s1:SqL K H a1 [.int a]:=SqL.of h1
  walk_at "x"
  exact ⟨s,A,a,rfl,hA,k⟩
 |move a b hn hx =>
  rw [hx] at h1
  have s1:SqL K H a1 [.int a,.int b]:=SqL.of h1
  walk_at "x"
  exact ⟨s,A,a,b,rfl,hA,k⟩
 |_=>omega
theorem rK (h:cn C vs H Q E):ib K (eW C .runs) (gf C .member) (eW C .size) (eW C .blocks) dn (gf C .same) (gf C .inside) (Ed Q) (start i5 vs) H:=by
 obtain ⟨s,A,q,c,a1,rfl,hA,hon,hk,hlo,hhi,h1,k⟩:=h
 unfold ib
 cases hk with
 |runs a hn hx =>
  rw [hx] at h1
  have s1:SqL K H a1 [.int a]:=SqL.of h1
  walk_at "x"
  exact ⟨s,A,a,rfl,hA,k⟩
 |member a b hn hx =>
  rw [hx] at h1
  have s1:SqL K H a1 [.int a,.int b]:=SqL.of h1
  walk_at "x"
  exact ⟨s,A,a,b,rfl,hA,k⟩
 |size a hn hx =>
  rw [hx] at h1
  have s1:SqL K H a1 [.int a]:=SqL.of h1
  walk_at "x"
  exact ⟨s,A,a,rfl,hA,k⟩
 |blocks a hn hx =>
  rw [hx] at h1
  have s1:SqL K H a1 [.int a]:=SqL.of h1
  walk_at "x"
  exact ⟨s,A,a,rfl,hA,k⟩
 |cover a b c hn hx =>
  rw [hx] at h1
  have s1:SqL K H a1 [.int a,.int b,.int c]:=SqL.of h1
  have es:(Vbcnan.doing s (.cover a b c)).1=s:=by
   show (if _ then _ else if _ then _ else _:State×List Int).1=s
   split
   ·rfl
   ·split<;>rfl
  rw [es] at k
  walk_at "x"
  exact ⟨s,a,b,c,rfl,fun H' p sm hp hpl=>k H' A p (hA.same fun b o _ e=>sm b o e) (Left.of_same A sm) hp hpl⟩
 |same a b hn hx =>
  rw [hx] at h1
  have s1:SqL K H a1 [.int a,.int b]:=SqL.of h1
  walk_at "x"
  exact ⟨s,A,a,b,rfl,hA,k⟩
 |inside a b hn hx =>
  rw [hx] at h1
  have s1:SqL K H a1 [.int a,.int b]:=SqL.of h1
  walk_at "x"
  exact ⟨s,A,a,b,rfl,hA,k⟩
 |_=>omega
theorem sZ (h:cA C vs H Q E):iT K (eN C) (ou C .rows) (eM C) (dJ C) (ou C .rules) (Ed Q) (start jF vs) H:=by
 obtain ⟨s,A,q,c,a1,rfl,hA,hon,hk,hlo,h1,k⟩:=h
 unfold iT
 cases hk with
 |ask a b c d hn hx =>
  rw [hx] at h1
  have s1:SqL K H a1 [.int a,.int b,.int c,.int d]:=SqL.of h1
  walk_at "x"
  exact ⟨s,A,a,b,c,d,rfl,hA,hon,k⟩
 |rows hn hx =>
  walk_at "x"
  exact ⟨s,A,rfl,hA,hon,k⟩
 |row a hn hx =>
  rw [hx] at h1
  have s1:SqL K H a1 [.int a]:=SqL.of h1
  walk_at "x"
  exact ⟨s,A,a,rfl,hA,hon,k⟩
 |look a b c d hn hx =>
  rw [hx] at h1
  have s1:SqL K H a1 [.int a,.int b,.int c,.int d]:=SqL.of h1
  walk_at "x"
  exact ⟨s,A,a,b,c,d,rfl,hA,hon,k⟩
 |rules hn hx =>
  walk_at "x"
  exact ⟨s,A,rfl,hA,hon,k⟩
 |_=>omega
def dM (C:CC):Sp:=fun vs H Q _=>∃ (s:State) (A:SA) (q:Mt.PC) (c:Vbcnan.Call) (a1 a2:Addr),vs=[.ref A.sw,.int q.n,.ref a1,.ref a2]/\bG C H s A/\Kind q c/\H a1=some (.lst (q.xs.map V.int))/\H a2=some (.lst (q.ps.map V.int)) /\
 Ans C H (Vbcnan.step s c).1 A (Vbcnan.step s c).2 Q
theorem JT {q:Mt.PC} {c:Vbcnan.Call} (h:Kind q c) (hn:q.n≠0) (s:State):0<=q.n/\q.n<=17/\Vbcnan.step s c=if s.on=false then (s,[-20]) else Vbcnan.doing s c:=by
 cases h<;>first|(exfalso;omega)|exact ⟨by omega,by omega,rfl⟩
theorem zx (T:TxS K C) (h:dM C vs H Q E):mh K C.sw (dq C) (cu C) (cW C) (cn C) (cA C) (Ed Q) (start n0 vs) H:=by
 obtain ⟨s,A,q,c,a1,a2,rfl,hA,hk,h1,h2,k⟩:=h
 have hz:=sizeLine_eq
 have hi:=hA.ins
 unfold mh
 by_cases hn:q.n=0
 ·cases hk with
  |begin_ a _ hx =>
   rw [hx] at h1
   have s1:SqL K H a1 [.int a]:=SqL.of h1
   walk_at "x"
   exact ⟨s,A,a,rfl,hA,k⟩
  |_=>omega
 ·obtain ⟨hlo,hhi,est⟩:=JT hk hn s
  rw [est] at k
  walk_at "x"
  refine ⟨s,A,rfl,hA,?_⟩
  walk_at "x"
  cases hon:s.on with
  |false =>
   rw [hon,if_pos (by rfl)] at k
   walk_at "x"
   exact k.fin hA
  |true =>
   rw [hon,if_neg (fun q=>nomatch q)] at k
   by_cases c1:q.n<=5
   ·walk_at "x"
    exact ⟨s,A,q,c,a1,a2,rfl,hA,hon,hk,by omega,c1,h1,h2,k⟩
   ·by_cases c2:q.n<=12
    ·walk_at "x"
     exact ⟨s,A,q,c,a1,rfl,hA,hon,hk,by omega,c2,h1,k⟩
    ·walk_at "x"
     exact ⟨s,A,q,c,a1,rfl,hA,hon,hk,by omega,h1,k⟩
end
section
variable {K:Frag} {C:CC} {vs:List V} {H:Hp} {Q:VK} {E:XK}
open Vbcnan (State Group Part Rule)
def sU (K:Frag):Sp:=fun vs H Q _=>∃ (a:Addr) (ns:List Int),vs=[.ref a]/\SqL K H a (ns.map V.int)/\ns.length<=16000/\PyVbcnan.answers_asked ns=true/\∀ (H':Hp) (p:Addr),H' p=some (.lst ((PyVbcnan.answers ns).map V.int))->Q (.ref p) H'
def Of (A:SA) (G:Addr) (H:Hp) (q:Addr) (c:Mt.PC):Prop:=∃ a1 a2,H q=some (.tup [.int c.n,.ref a1,.ref a2])/\H a1=some (.lst (c.xs.map V.int))/\H a2=some (.lst (c.ps.map V.int))/\(q∉A.own/\q≠G)/\(a1∉A.own/\a1≠G)/\(a2∉A.own/\a2≠G)
theorem Asks.get:∀ {qs:List Mt.PC} {cs:List Vbcnan.Call} {i:Nat} {q:Mt.PC},Asks qs cs->qs[i]? = some q->∃ c,cs[i]? = some c/\Kind q c
 |_,_,_,_,.nil,h=>by simp at h
 |_,_,0,_,.cons k _,h=>by simp at h;subst h;exact ⟨_,rfl,k⟩
 |_,_,i+1,q,.cons _ t,h=>by
  obtain ⟨c,h1,h2⟩:=Asks.get (i:=i) (q:=q) t (by simpa using h)
  exact ⟨c,by simpa using h1,h2⟩
theorem Asks.length:∀ {qs:List Mt.PC} {cs:List Vbcnan.Call},Asks qs cs->qs.length=cs.length
 |_,_,.nil=>rfl
 |_,_,.cons _ t=>by rw [bM,bM,Asks.length t]
theorem G2 (T:TxS K C) (h:sU K vs H Q E):sJ K C.sw (dN C) (eE K) (dM C) (Ed Q) (start xg vs) H:=by
 obtain ⟨a,ns,rfl,ha,S3,PL,k⟩:=h
 obtain ⟨qs,cs,RA,Od,Te,hlen⟩:=Gx PL
 have hz:=sizeLine_eq
 unfold sJ
 walk_at "x1"
 walk_at "x1"
 unfold sC
 walk_at "x"
 intro x dx hx hdx hne
 refine ⟨x,dx,rfl,aw,by rw [au hne,aw],fun H1 A hA hsw him hgr hkp=>⟨rfl,?_⟩⟩
 have sm1:bf H H1:=fun b o e=>hkp b o (by rw [au (az e hx),au (az e hdx)];exact e) (az e hx)
 subst hsw
 walk_at "x"
 refine ⟨aT _,fun G hG => ?_⟩
 have hGo:G∉A.own:=hA.D4 hG
 have sm2:bf H1 (upd H1 G (.lst [])):=br (bf.refl H1) hG
 have hA2:bG C (upd H1 G (.lst [])) Vbcnan.start A:=hA.out hGo
 have hGl:upd H1 G (.lst []) G=some (.lst []):=aw
 generalize upd H1 G (.lst [])=H2 at sm2 hA2 hGl ⊢
 have ha2:SqL K H2 a (ns.map V.int):=(sm1.trans sm2).seq ha
 walk_at "x"
 refine ⟨a,ns,qs,rfl,ha2,S3,RA,fun H3 p sm3 hC => ?_⟩
 obtain ⟨hp0,rs,hpl,hPc⟩:=hC
 have hA3:bG C H3 Vbcnan.start A:=hA2.same fun b o _ e=>sm3 b o e
 have hpG:p≠G:=fun q=>by rw [q,hGl] at hp0;cases hp0
 have hps:SqL K H3 p (rs.map V.ref):=SqL.of hpl
 have fr:∀ b,H2 b=none->b∉A.own/\b≠G:=fun b hb=>⟨hA2.D4 hb,fun q=>by rw [q,hGl] at hb;cases hb⟩
 have hOut:Paired (Of A G H3) rs qs:=Paired.imp (fun q c ⟨a1,a2,x1,x2,x3,x4,x5,x6⟩=>⟨a1,a2,x1,x2,x3,fr q x4,fr a1 x5,fr a2 x6⟩) hPc
 have hrl:rs.length=qs.length:=hPc.length
 have hcl:=Sw.Asks.length Od
 walk_at "x"
 refine dO (K:=K) (a:=p) (xs:=rs.map V.ref) (fun i σ H'=>∃ (s:State) (A':SA) (acc:List Int) (v3 v4 v5 v6:Option V),σ = [some (.ref a),some (.ref A.sw),some (.ref G),v3,v4,v5,v6]/\A'.sw=A.sw/\bG C H' s A'/\G∉A'.own/\H' G=some (.lst (acc.map V.int))/\H' p=some (.lst (rs.map V.ref))/\p∉A'.own/\Paired (Of A' G H') rs qs /\
  PyVbcnan.answers ns=acc++PyFlat.told (rf s (cs.drop i)))
  ⟨Vbcnan.start,A,[],none,none,none,none,rfl,rfl,hA3,hGo,sm3 _ _ hGl,hpl,(fr p hp0).1,hOut,Te⟩ (fun i σ H' _ ⟨_,_,_,_,_,_,_,_,_,_,_,_,e,_⟩=>SqL.of e) ?_ ?_
 ·rintro i x σ H' hx ⟨s,A',acc,v3,v4,v5,v6,rfl,Pr,hA',hG',Nv,hp',hpo,hO,Bw⟩
  obtain ⟨t,rfl,ht⟩:=cX hx
  obtain ⟨q,hq,a1,a2,t1,t2,t3,t4,t5,t6⟩:=Paired.get hO ht
  obtain ⟨c,hc,hk⟩:=Asks.get Od hq
  have hts:SqT K H' t [.int q.n,.ref a1,.ref a2]:=SqT.of t1
  have hci:=(ak.mp hc).1
  have hdr:cs.drop i=c::cs.drop (i+1):=by
   rw [bq hci]
   congr 1
   exact (ak.mp hc).2
  have Oe:PyVbcnan.answers ns=acc++(((Vbcnan.step s c).2.length:Int)::(Vbcnan.step s c).2)++PyFlat.told (rf (Vbcnan.step s c).1 (cs.drop (i+1))):=by
   rw [Bw,hdr]
   show acc++PyFlat.told ((Vbcnan.step s c).2::rf (Vbcnan.step s c).1 (cs.drop (i+1)))=_
   rw [Jq,di]
  have hbound:acc.length+(1+(Vbcnan.step s c).2.length)<=10000000:=by
   have:=congrArg List.length Oe
   simp only [aG,bM] at this
   omega
  walk_at "x"
  refine ⟨s,A',q,c,a1,a2,by rw [Pr];rfl,hA',hk,t2,t3,fun H4 A4 r hA4 hL4 hr hr4 => ?_⟩
  have st:∀ b o,H' b=some o->b∉A'.own->H4 b=some o/\b∉A4.own:=fun b o e hb=>⟨hL4.keep b o e hb,fun z=>by
   rcases hL4.grow b z with y|y
   ·exact hb y
   ·rw [e] at y
    cases y⟩
  have hG4:=st G _ Nv hG'
  have hrG:r≠G:=fun z=>by rw [z,Nv] at hr;cases hr
  have T8:SqL K H4 r ((Vbcnan.step s c).2.map V.int):=SqL.of hr4
  have Uj:=hG4.1
  walk_at "x"
  refine eT hG4.1 (by rw [ab];omega) ?_
  rw [ab]
  have hr5:upd H4 G (.lst (acc.map V.int++[.int ((Vbcnan.step s c).2.length:Int)])) r=some (.lst ((Vbcnan.step s c).2.map V.int)):=by rw [au hrG];exact hr4
  have hG5:upd H4 G (.lst (acc.map V.int++[.int ((Vbcnan.step s c).2.length:Int)])) G=some (.lst (acc.map V.int++[.int ((Vbcnan.step s c).2.length:Int)])):=aw
  walk_at "x"
  refine ⟨G,r,_,_,rfl,rfl,hG5,hr5,by simp only [aG,ab,cg];omega,?_⟩
  rw [gS]
  have eG:acc.map V.int++[V.int ((Vbcnan.step s c).2.length:Int)]++(Vbcnan.step s c).2.map V.int=(acc++(((Vbcnan.step s c).2.length:Int)::(Vbcnan.step s c).2)).map V.int:=by
   rw [bt,aW,di]
   rfl
  rw [eG]
  refine ⟨(Vbcnan.step s c).1,A4,_,_,_,_,_,rfl,hL4.sw.trans Pr,hA4.out hG4.2,hG4.2,aw,?_,(st p _ hp' hpo).2,Paired.imp (fun b d ⟨b1,b2,y1,y2,y3,⟨y4,y5⟩,⟨y6,y7⟩,⟨y8,y9⟩⟩ => ?_) hO,Oe⟩
  ·have SQ:p≠G:=hpG
   rw [au SQ]
   exact (st p _ hp' hpo).1
  ·obtain ⟨w1,w2⟩:=st b _ y1 y4
   obtain ⟨w3,w4⟩:=st b1 _ y2 y6
   obtain ⟨w5,w6⟩:=st b2 _ y3 y8
   exact ⟨b1,b2,by rw [au y5];exact w1,by rw [au y7];exact w3,by rw [au y9];exact w5,⟨w2,y5⟩,⟨w4,y7⟩,⟨w6,y9⟩⟩
 ·rintro σ H' ⟨s,A',acc,v3,v4,v5,v6,rfl,Pr,hA',hG',Nv,hp',hpo,hO,Bw⟩
  have Ta:cs.drop (rs.map V.ref).length=[]:=pV.mpr (by rw [ab];omega)
  rw [Ta] at Bw
  have Bw:PyVbcnan.answers ns=acc++[]:=Bw
  rw [cS] at Bw
  walk_at "x"
  refine k H' G ?_
  rw [Bw]
  exact Nv
end
end Sw
set_option maxRecDepth 100000
set_option maxHeartbeats 4000000
namespace Sw
open PySem PySem.Spec PyProof.Rows L2 L3
structure Mg (K:Frag) (mg:Str->Option Value):Prop where
 pb:∃ tk,mg "RANGE_IN"=some (.int (0) tk)
 qH:∃ tk,mg "RANGE_OUT"=some (.int (1) tk)
 pj:∃ tk,mg "GROUP_IN"=some (.int (2) tk)
 qK:∃ tk,mg "GROUP_OUT"=some (.int (3) tk)
 fI:∃ tk,mg "LAST_ADDRESS"=some (.int (4294967295) tk)
 jg:∃ tk,mg "LAST_KIND"=some (.int (255) tk)
 kN:∃ tk,mg "LAST_PORT"=some (.int (65535) tk)
 fJ:∃ tk,mg "ADDRESS_BITS"=some (.int (32) tk)
 m5:∃ tk,mg "KIND_BITS"=some (.int (8) tk)
 kM:∃ tk,mg "PORT_BITS"=some (.int (16) tk)
 xE:∃ tk,mg "ALL"=some (.int (-1) tk)
 ph:∃ tk,mg "LAST_GROUP"=some (.int (15) tk)
 mD:∃ tk,mg "MOST_NUMBERS"=some (.int (48) tk)
 qJ:∃ tk,mg "MOST_BITS"=some (.int (32) tk)
 Ae:Qk K mg "WIDTHS" widths
 yL:∃ tk,mg "GROUP"=some (.int (1) tk)
 pd:∃ tk,mg "MOST_RULES"=some (.int (32) tk)
 k6:∃ tk,mg "GREATEST_MOST"=some (.int (1024) tk)
 wH:∃ tk,mg "NOGROUP"=some (.int (2) tk)
 HN:∃ tk,mg "RULE"=some (.int (3) tk)
 Af:∃ tk,mg "NORULE"=some (.int (4) tk)
 HM:∃ tk,mg "RUNS"=some (.int (6) tk)
 Ag:∃ tk,mg "MEMBER"=some (.int (7) tk)
 HK:∃ tk,mg "SIZE"=some (.int (8) tk)
 Ai:∃ tk,mg "BLOCKS"=some (.int (9) tk)
 EC:∃ tk,mg "COVER"=some (.int (10) tk)
 HL:∃ tk,mg "SAME"=some (.int (11) tk)
 L0:∃ tk,mg "ASK"=some (.int (13) tk)
 HP:∃ tk,mg "ROWS"=some (.int (14) tk)
 LZ:∃ tk,mg "ROW"=some (.int (15) tk)
 HR:∃ tk,mg "LOOK"=some (.int (16) tk)
 ED:∃ tk,mg "BEGIN"=some (.int (0) tk)
 qI:∃ tk,mg "NOT_BEGUN"=some (.int (-20) tk)
 HQ:∃ tk,mg "MOVE"=some (.int (5) tk)
 Ah:∃ tk,mg "INSIDE"=some (.int (12) tk)
def BD (P:Program) (w:World) (K:Frag) (mg:Str->Option Value) (base:Heap) (N:List Str) (q:Str) (st:Stmt) (n:Nat) (t:TS):Prop:=∀ (f:Addr) (cdv:Value) (A:Around) (outer:List Env) (s:Shared) (H:Hp) (E:XK),g7 n (A.deeper (envOfC q (aB st) s.heap.objs.size f cdv))->PSs (HH CX0 P w K mg base N q (aB st) f cdv A outer s H E).nox (gC st) t
local macro_rules | `(tactic| walk_at "sc") => `(tactic| exact ⟨rfl, rfl, rfl, by decide +kernel, rfl, by decide +kernel, by decide +kernel⟩)
section
variable {P:Program} {w:World} {K:Frag} {mg:Str->Option Value} {base:Heap} {ah:Addr} {aX:Addr}
abbrev oU:Stmt:=top 52
theorem Fm:aP tZ ["form"] (aB oU):=by walk_at "sc"
theorem Gp (B:Bl mg) (M:Mg K mg):BD P w K mg base tZ "is_range" oU 0 (p8 K):=fun f cdv A outer s H E hr=>(aq (aK (zE (dU cF (pv 0) (pGi M.pb) (fy _)) (jV (dU cF (pv 0) (pGi M.qH) (fy _))))))
abbrev gY:Stmt:=top 53
theorem uA:aP j0 ["form"] (aB gY):=by walk_at "sc"
theorem vh (B:Bl mg) (M:Mg K mg):BD P w K mg base j0 "is_named_group" gY 0 (jl K):=fun f cdv A outer s H E hr=>(aq (aK (zE (dU cF (pv 0) (pGi M.pj) (fy _)) (jV (dU cF (pv 0) (pGi M.qK) (fy _))))))
abbrev mQ:Stmt:=top 54
theorem DN:aP qV ["form"] (aB mQ):=by walk_at "sc"
theorem EE (B:Bl mg) (M:Mg K mg):BD P w K mg base qV "makes_yes" mQ 0 (oJ K):=fun f cdv A outer s H E hr=>(aq (aK (zE (dU cF (pv 0) (pGi M.pb) (fy _)) (jV (dU cF (pv 0) (pGi M.pj) (fy _))))))
abbrev DS:Stmt:=top 10
theorem jw:aP EN ["edges","touched","yes"] (aB DS):=by walk_at "sc"
theorem NJ (B:Bl mg) (M:Mg K mg):BD P w K mg base EN "mark" DS 0 (yD K):=fun f cdv A outer s H E hr=>(ai (psS 3 jw.nd (bo aj)) (ai (psS 4 jw.nd zF) (ai (psS 5 jw.nd ao) (ai (psS 6 jw.nd ao) (ai (qx PassesOwn.never (PW.pt (qw (ptC my (pv 5) (jC B (aa (pv 0) aj))) (mv (ptC my (pv 6) (jC B (aa (pv 1) aj)))))) (ai (bN (PW.pt (qw (ptC cF (pv 6) (jC B (aa (pv 1) aj))) (mv (PW.pt (mw (ptC my (pv 5) (jC B (aa (pv 0) aj))) (kE (ptC my (pIl (pv 0) (pv 5)) (pIl (pv 1) (pv 6))))))))) (aq (psS 7 jw.nd (pIl (pv 0) (pv 5)))) (aq (psS 7 jw.nd (pIl (pv 1) (pv 6))))) (ai (bN (PW.pt (mw (ptC my (pv 5) (jC B (aa (pv 0) aj))) (kE (ptC cF (pIl (pv 0) (pv 5)) (pv 7))))) (aq (psA 5 jw.nd ao Ho)) aY) (ai (bN (PW.pt (mw (ptC my (pv 6) (jC B (aa (pv 1) aj))) (kE (ptC cF (pIl (pv 1) (pv 6)) (pv 7))))) (aq (psA 6 jw.nd ao Ho)) aY) (ai (psS 8 jw.nd (gM (ptC cF (bZ Li (pv 6) ao) ao) (pv 2) (dU cF (bZ Li (pv 5) ao) ao (fy _)))) (aq (bN (ptC Lg (pv 8) (pv 4)) (ai (cy (wd (pv 3) (aa (pv 7) aj))) (aq (psS 4 jw.nd (pv 8)))) aY))))))) (aq (aK (pv 3))))))))
abbrev mR:Stmt:=top 11
theorem oS:aP qW ["edges"] (aB mR):=by walk_at "sc"
theorem EF (B:Bl mg) (M:Mg K mg):BD P w K mg base qW "list_runs" mR 0 (oK K):=fun f cdv A outer s H E hr=>(ai (psS 1 oS.nd (bo aj)) (ai (eB PassesOwn.never rfl (rh (by rfl) B.range (aa ao (aa (jC B (aa (pv 0) aj)) (aa ao aj)))) (pgN 2 oS.nd) (ai (cy (wd (pv 1) (aa (pIl (pv 0) (pv 2)) aj))) (aq (cy (wd (pv 1) (aa (bZ nH (pIl (pv 0) (bZ jW (pv 2) ao)) ao) aj)))))) (aq (aK (pv 1)))))
abbrev fm:Stmt:=top 12
theorem iW:aP gD ["edges"] (aB fm):=by walk_at "sc"
theorem tR (B:Bl mg) (M:Mg K mg):BD P w K mg base gD "count_addresses" fm 0 (iS K):=fun f cdv A outer s H E hr=>(aq (aK (mx (Qa rfl) (by rfl) B.sum Kj (aa (Iz (own:=[("i",1)]) rfl iW.nd (rh (by rfl) B.range (aa ao (aa (jC B (aa (pv 0) aj)) (aa ao aj)))) (by exact vg (N:=gD) (sc:=aB fm) (by decide +kernel)) (fun _ _ _ _ _=>(pgN 1 iW.nd)) (fun _ _ _ _ _=>yH) (fun _ _ _ _ _=>(bZ nH (pIl (pv 0) (bZ jW (pv 1) ao)) (pIl (pv 0) (pv 1))))) aj))))
abbrev lM:Stmt:=top 2
theorem sD:aP pI ["first","hi"] (aB lM):=by walk_at "sc"
theorem BW (B:Bl mg) (M:Mg K mg):BD P w K mg base pI "count_free" lM 0 (nv K):=fun f cdv A outer s H E hr=>(ai (psS 2 sD.nd (bZ nH (G7 PySem.F.plainAttrs_int PySem.F.slot_int_bit_length PySem.F.type_int_bit_length CO (bZ jW (bZ nH (pv 1) (pv 0)) ao)) ao)) (ai (bN (ptC cF (pv 0) ao) (aq (aK (pv 2))) aY) (aq (aK (mx (Kh rfl) (by rfl) B.min Kk (aa (pv 2) (aa (bZ nH (G7 PySem.F.plainAttrs_int PySem.F.slot_int_bit_length PySem.F.type_int_bit_length CO (bZ nI (pv 0) (d7 cG (pv 0)))) ao) aj)))))))
abbrev kg:Stmt:=top 1
theorem gL:aP nS ["lo","hi"] (aB kg):=by walk_at "sc"
theorem Aq {eL:Sp} (B:Bl mg) (M:Mg K mg) (EV:FnAt P w K mg base 1 "count_free" ["first","hi"] eL):BD P w K mg base nS "cover_range" kg 1 (l6 K eL):=fun f cdv A outer s H E hr=>(ai (psS 2 gL.nd (bo aj)) (ai (psS 3 gL.nd (pv 0)) (ai (qx PassesOwn.never (ptC dW (pv 3) (pv 1)) (ai (psS 4 gL.nd (pCf hr EV (aa (pv 3) (aa (pv 1) aj)))) (ai (cy (wd (pv 2) (aa (tw (aa (pv 3) (aa (pv 4) aj))) aj))) (aq (psA 3 gL.nd (bZ o4 ao (pv 4)) Ho))))) (aq (aK (pv 2))))))
abbrev lL:Stmt:=top 3
theorem nD:aP pH ["edges"] (aB lL):=by walk_at "sc"
theorem BV {bu:Sp} (B:Bl mg) (M:Mg K mg) (iF:FnAt P w K mg base 2 "cover_range" ["lo","hi"] bu):BD P w K mg base pH "cover_runs" lL 2 (nu K bu):=fun f cdv A outer s H E hr=>(ai (psS 1 nD.nd (bo aj)) (ai (eB PassesOwn.never rfl (rh (by rfl) B.range (aa ao (aa (jC B (aa (pv 0) aj)) (aa ao aj)))) (pgN 2 nD.nd) (aq (cy (pR PySem.F.plainAttrs_list PySem.F.slot_list_extend PySem.F.type_list_extend wj (pv 1) (aa (pCf hr iF (aa (pIl (pv 0) (pv 2)) (aa (bZ nH (pIl (pv 0) (bZ jW (pv 2) ao)) ao) aj))) aj))))) (aq (aK (pv 1)))))
abbrev j9:Stmt:=top 8
theorem jv:aP nO ["blocks"] (aB j9):=by walk_at "sc"
theorem Am (B:Bl mg) (M:Mg K mg):BD P w K mg base nO "tell_blocks" j9 0 (lY K):=fun f cdv A outer s H E hr=>(ai (psS 1 jv.nd (bo (aa ao (aa (jC B (aa (pv 0) aj)) aj)))) (ai (eB PassesOwn.never rfl (dS (pv 0)) (nF rfl (cC (pgN 2 jv.nd) (cC (pgN 3 jv.nd) kF))) (ai (cy (wd (pv 1) (aa (pv 2) aj))) (aq (cy (wd (pv 1) (aa (pv 3) aj)))))) (aq (aK (pv 1)))))
abbrev lK:Stmt:=top 18
theorem Bh:aP pG ["number"] (aB lK):=by walk_at "sc"
theorem BU (B:Bl mg) (M:Mg K mg):BD P w K mg base pG "is_address" lK 0 (nr K):=fun f cdv A outer s H E hr=>(aq (aK (oB dW dW ao (pv 0) (pGi M.fI))))
abbrev mT:Stmt:=top 19
theorem DO:aP qY ["source","target","kind","port"] (aB mT):=by walk_at "sc"
theorem EH {bV:Sp} (B:Bl mg) (M:Mg K mg) (lQ:FnAt P w K mg base 1 "is_address" ["number"] bV):BD P w K mg base qY "is_packet" mT 1 (oN K bV):=fun f cdv A outer s H E hr=>(aq (aK (nG (pCf hr lQ (aa (pv 0) aj)) (nG (pCf hr lQ (aa (pv 1) aj)) (nG (oB dW dW ao (pv 2) (pGi M.jg)) (jV (oB dW dW ao (pv 3) (pGi M.kN))))))))
abbrev fT:Stmt:=top 24
theorem lu:aP iZ ["source","target","kind","port"] (aB fT):=by walk_at "sc"
theorem rV (B:Bl mg) (M:Mg K mg):BD P w K mg base iZ "put_side_by_side" fT 0 (hJ K):=fun f cdv A outer s H E hr=>(ai (psS 4 lu.nd (bZ Lf (bZ o4 (pv 0) (pGi M.fJ)) (pv 1))) (aq (aK (bZ Lf (bZ o4 (bZ Lf (bZ o4 (pv 4) (pGi M.m5)) (pv 2)) (pGi M.kM)) (pv 3)))))
abbrev lE:Stmt:=top 25
theorem j8:aP px ["number"] (aB lE):=by walk_at "sc"
theorem BN (B:Bl mg) (M:Mg K mg):BD P w K mg base px "take_apart" lE 0 (m9 K):=fun f cdv A outer s H E hr=>(ai (psS 1 j8.nd (bZ Hd (pv 0) (pGi M.kM))) (ai (psS 2 j8.nd (bZ Hd (pv 1) (pGi M.m5))) (ai (psS 3 j8.nd (bZ Hd (pv 2) (pGi M.fJ))) (aq (aK (bo (aa (pv 3) (aa (bZ nI (pv 2) (pGi M.fI)) (aa (bZ nI (pv 1) (pGi M.jg)) (aa (bZ nI (pv 0) (pGi M.kN)) aj))))))))))
abbrev ke:Stmt:=top 26
theorem za:aP nQ ["row"] (aB ke):=by walk_at "sc"
theorem Ao {dB:Sp} (B:Bl mg) (M:Mg K mg) (vy:FnAt P w K mg base 1 "take_apart" ["number"] dB):BD P w K mg base nQ "list_fields" ke 1 (l4 K dB):=fun f cdv A outer s H E hr=>(aq (aK (MP rfl (by rfl) B.list (by rfl) B.zip (aa (pCf hr vy (aa (pIt (pv 0) ao) aj)) (aa (pCf hr vy (aa (pIt (pv 0) ao) aj)) aj)))))
abbrev eX:Stmt:=top 27
theorem fC:aP f9 ["blocks","bits"] (aB eX):=by walk_at "sc"
theorem rX (B:Bl mg) (M:Mg K mg):BD P w K mg base f9 "fields_of_blocks" eX 0 (ia K):=fun f cdv A outer s H E hr=>(aq (aK (Iz (own:=[("first",2),("free",3)]) rfl fC.nd (dS (pv 0)) (by exact vg (N:=f9) (sc:=aB eX) (by decide +kernel)) (fun _ _ _ _ _=>(nF rfl (cC (pgN 2 fC.nd) (cC (pgN 3 fC.nd) kF)))) (fun _ _ _ _ _=>yH) (fun _ _ _ _ _=>(tw (aa (pv 2) (aa (bZ o4 (bZ nH (bZ o4 ao (bZ nH (pv 1) (pv 3))) ao) (pv 3)) aj)))))))
abbrev iJ:Stmt:=top 28
theorem vP:aP k8 ["kind"] (aB iJ):=by walk_at "sc"
theorem wK (B:Bl mg) (M:Mg K mg):BD P w K mg base k8 "field_of_kind" iJ 0 (jN K):=fun f cdv A outer s H E hr=>(aq (aK (gM (ptC cF (pv 0) (pGi M.xE)) (tw (aa ao (aa ao aj))) (tw (aa (pv 0) (aa (pGi M.jg) aj))))))
abbrev iI:Stmt:=top 29
theorem cj:aP k7 ["rule","sources","targets","ports"] (aB iI):=by walk_at "sc"
theorem wJ {cU bP bg:Sp} (B:Bl mg) (M:Mg K mg) (yw:FnAt P w K mg base 1 "field_of_kind" ["kind"] cU) (ja:FnAt P w K mg base 1 "fields_of_blocks" ["blocks","bits"] bP) (gc:FnAt P w K mg base 1 "put_side_by_side" ["source","target","kind","port"] bg):BD P w K mg base k7 "make_raw_rows" iI 1 (jM K cU bP bg):=fun f cdv A outer s H E hr=>(ai (psS 4 cj.nd (pCf hr yw (aa (pIt (pv 0) ao) aj))) (ai (psS 5 cj.nd (pCf hr ja (aa (pv 2) (aa (pGi M.fJ) aj)))) (ai (psS 6 cj.nd (pCf hr ja (aa (pv 3) (aa (pGi M.kM) aj)))) (ai (psS 7 cj.nd (bo aj)) (ai (eB PassesOwn.never rfl (dS (pCf hr ja (aa (pv 1) (aa (pGi M.fJ) aj)))) (pgN 8 cj.nd) (aq (eB PassesOwn.never rfl (dS (pv 5)) (pgN 9 cj.nd) (aq (eB PassesOwn.never rfl (dS (pv 6)) (pgN 10 cj.nd) (ai (psS 11 cj.nd (pCf hr gc (aa (pIt (pv 8) ao) (aa (pIt (pv 9) ao) (aa (pIt (pv 4) ao) (aa (pIt (pv 10) ao) aj)))))) (ai (psS 12 cj.nd (pCf hr gc (aa (pIt (pv 8) ao) (aa (pIt (pv 9) ao) (aa (pIt (pv 4) ao) (aa (pIt (pv 10) ao) aj)))))) (aq (cy (wd (pv 7) (aa (tw (aa (pIt (pv 0) ao) (aa (pv 11) (aa (pv 12) aj)))) aj))))))))))) (aq (aK (pv 7))))))))
abbrev lI:Stmt:=top 32
theorem Bg:aP pE ["number"] (aB lI):=by walk_at "sc"
theorem BR (B:Bl mg) (M:Mg K mg):BD P w K mg base pE "is_one_bit" lI 0 (nj K):=fun f cdv A outer s H E hr=>(aq (aK (nG (dU Lg (pv 0) ao (fy _)) (jV (dU cF (bZ nI (pv 0) (bZ nH (pv 0) ao)) ao (fy _))))))
abbrev iK:Stmt:=top 31
theorem vQ:aP k9 ["first","second"] (aB iK):=by walk_at "sc"
theorem wL {eJ:Sp} (B:Bl mg) (M:Mg K mg) (ET:FnAt P w K mg base 1 "is_one_bit" ["number"] eJ):BD P w K mg base k9 "can_be_joined" iK 1 (jO K eJ):=fun f cdv A outer s H E hr=>(aq (aK (nG (dU cF (pIt (pv 0) ao) (pIt (pv 1) ao) (fy _)) (nG (dU cF (pIt (pv 0) ao) (pIt (pv 1) ao) (fy _)) (jV (pCf hr ET (aa (bZ Hb (pIt (pv 0) ao) (pIt (pv 1) ao)) aj)))))))
abbrev oT:Stmt:=top 33
theorem xt:aP tY ["first","second"] (aB oT):=by walk_at "sc"
theorem Gn (B:Bl mg) (M:Mg K mg):BD P w K mg base tY "join_two" oT 0 (p6 K):=fun f cdv A outer s H E hr=>(ai (psS 2 xt.nd (bZ Hb (pIt (pv 0) ao) (pIt (pv 1) ao))) (aq (aK (tw (aa (pIt (pv 0) ao) (aa (bZ nI (pIt (pv 0) ao) (pIt (pv 1) ao)) (aa (bZ Hb (pIt (pv 0) ao) (pv 2)) aj)))))))
abbrev mS:Stmt:=top 30
theorem jx:aP qX ["rows"] (aB mS):=by walk_at "sc"
theorem EG {cV fP:Sp} (B:Bl mg) (M:Mg K mg) (yx:FnAt P w K mg base 2 "can_be_joined" ["first","second"] cV) (Ii:FnAt P w K mg base 1 "join_two" ["first","second"] fP):BD P w K mg base qX "join_rows" mS 2 (oM K cV fP):=fun f cdv A outer s H E hr=>(ai (psS 1 jx.nd (bo aj)) (ai (eB PassesOwn.never rfl (dS (pv 0)) (pgN 2 jx.nd) (ai (psS 3 jx.nd (pv 2)) (ai (qx PassesOwn.never (PW.pt (mw (uO (pv 1) (fun _=>rfl)) (kE (d4 (pCf hr yx (aa (pIl (pv 1) (d7 cG ao)) (aa (pv 3) aj))))))) (aq (psS 3 jx.nd (pCf hr Ii (aa (G7 PySem.F.plainAttrs_list PySem.F.slot_list_pop PySem.F.type_list_pop Pe (pv 1)) (aa (pv 3) aj)))))) (aq (cy (wd (pv 1) (aa (pv 3) aj))))))) (aq (aK (pv 1)))))
abbrev DQ:Stmt:=top 34
theorem DM:aP Ia ["rows"] (aB DQ):=by walk_at "sc"
theorem NH (B:Bl mg) (M:Mg K mg):BD P w K mg base Ia "trim" DQ 0 (Dj K):=fun f cdv A outer s H E hr=>(ai (psS 1 DM.nd (jC B (aa (pv 0) aj))) (ai (qx PassesOwn.never (PW.pt (mw (ptC FH (pv 1) ao) (kE (ptC cF (pIt (pIl (pv 0) (bZ nH (pv 1) ao)) ao) ao)))) (aq (psA 1 DM.nd ao Po))) (aq (aK (qz uy (pv 0) Iv (mV (pv 1)))))))
abbrev oV:Stmt:=top 35
theorem qe:aP t7 ["rows","packet"] (aB oV):=by walk_at "sc"
theorem Gq (B:Bl mg) (M:Mg K mg):BD P w K mg base t7 "find_row" oV 0 (p9 K):=fun f cdv A outer s H E hr=>(ai (eB PassesOwn.never rfl (Iy (by rfl) B.enumerate (aa (pv 0) aj)) (nF rfl (cC (pgN 2 qe.nd) (cC (pgN 3 qe.nd) kF))) (aq (bN (ptC cF (bZ nI (pv 1) (pIt (pv 3) ao)) (pIt (pv 3) ao)) (aq (aK (pv 2))) aY))) (aq (aK (d7 cG ao))))
abbrev kf:Stmt:=top 38
theorem fH:aP nR ["fields","filed"] (aB kf):=by walk_at "sc"
theorem Ap (B:Bl mg) (M:Mg K mg):BD P w K mg base nR "file_fields" kf 0 (l5 K):=fun f cdv A outer s H E hr=>(ai (psS 2 fH.nd (pv 1)) (aq (eB PassesOwn.never rfl (dS (pv 0)) (nF rfl (cC (pgN 3 fH.nd) (cC (pgN 4 fH.nd) kF))) (ai (psS 5 fH.nd (pR PySem.F.plainAttrs_dict PySem.F.slot_dict_setdefault PySem.F.type_dict_setdefault CM (pv 2) (aa (pv 4) (aa iC aj)))) (aq (psS 2 fH.nd (pR PySem.F.plainAttrs_dict PySem.F.slot_dict_setdefault PySem.F.type_dict_setdefault CM (pv 5) (aa (pv 3) (aa iC aj)))))))))
abbrev g4:Stmt:=top 40
theorem fk:aP j4 ["files","value","mask"] (aB g4):=by walk_at "sc"
theorem vj (B:Bl mg) (M:Mg K mg):BD P w K mg base j4 "covering_files" g4 0 (jn K):=fun f cdv A outer s H E hr=>have hu:=lA hr;(ai (psS 3 fk.nd (bo aj)) (ai (eB PassesOwn.never rfl (dS (pv 0)) (pgN 4 fk.nd) (aq (Iu (eB PassesOwn.never rfl (K6 (pv 4)) (nF rfl (cC (pgN 5 fk.nd) (cC (pgN 6 fk.nd) kF))) (aq (bN (PW.pt (mw (ptC cF (bZ nI (pv 5) (pv 2)) (pv 5)) (kE (jU (G8 hu (bZ nI (pv 1) (pv 5)) (pv 6)))))) (aq (cy (wd (pv 3) (aa (pDg hu (pv 6) (bZ nI (pv 1) (pv 5))) aj)))) aY)))))) (aq (aK (pv 3)))))
abbrev lJ:Stmt:=top 39
theorem iA:aP pF ["fields","filed"] (aB lJ):=by walk_at "sc"
theorem BS {cJ:Sp} (B:Bl mg) (M:Mg K mg) (xi:FnAt P w K mg base 1 "covering_files" ["files","value","mask"] cJ):BD P w K mg base pF "is_covered" lJ 1 (nq K cJ):=fun f cdv A outer s H E hr=>(ai (psS 2 iA.nd (bo (aa (pv 1) aj))) (ai (eB PassesOwn.never rfl (dS (pv 0)) (nF rfl (cC (pgN 3 iA.nd) (cC (pgN 4 iA.nd) kF))) (aq (psS 2 iA.nd (pCf hr xi (aa (pv 2) (aa (pv 3) (aa (pv 4) aj))))))) (aq (aK (dU FH (jC B (aa (pv 2) aj)) ao (fy _))))))
abbrev DR:Stmt:=top 37
theorem uz:aP Ib ["rows"] (aB DR):=by walk_at "sc"
theorem NI {bT eK dH:Sp} (B:Bl mg) (M:Mg K mg) (n9:FnAt P w K mg base 2 "list_fields" ["row"] bT) (EU:FnAt P w K mg base 2 "is_covered" ["fields","filed"] eK) (Cd:FnAt P w K mg base 1 "file_fields" ["fields","filed"] dH):BD P w K mg base Ib "thin" DR 2 (Dk K bT eK dH):=fun f cdv A outer s H E hr=>(ai (psS 1 uz.nd (bo aj)) (ai (psS 2 uz.nd iC) (ai (eB PassesOwn.never rfl (dS (pv 0)) (pgN 3 uz.nd) (ai (psS 4 uz.nd (pCf hr n9 (aa (pv 3) aj))) (aq (bN (f6 (d4 (pCf hr EU (aa (pv 4) (aa (pv 2) aj))))) (ai (cy (wd (pv 1) (aa (pv 3) aj))) (aq (cy (pCf hr Cd (aa (pv 4) (aa (pv 2) aj)))))) aY)))) (aq (aK (pv 1))))))
abbrev lP:Stmt:=inClass (top 42) 0
theorem Bi:aP pL ["self","too_many","raw_count","rows"] (aB lP):=by walk_at "sc"
theorem BZ (B:Bl mg) (M:Mg K mg):BD P w K mg base pL "Table.__init__" lP 0 (nA K):=fun f cdv A outer s H E hr=>(ai (fx (pv 0) (pv 1) rfl) (ai (fx (pv 0) (pv 2) rfl) (aq (fx (pv 0) (pv 3) rfl))))
abbrev gZ:Stmt:=top 50
theorem c8:aP j3 ["parts","known_edges"] (aB gZ):=by walk_at "sc"
theorem vi {bJ b9 gx:Sp} (B:Bl mg) (M:Mg K mg) (mK:FnAt P w K mg base 1 "is_range" ["form"] bJ) (q0:FnAt P w K mg base 1 "makes_yes" ["form"] b9) (Ih:FnAt P w K mg base 1 "mark" ["edges","touched","yes"] gx):BD P w K mg base j3 "edges_of_parts" gZ 1 (jm K bJ b9 gx):=fun f cdv A outer s H E hr=>have hu:=lA hr;(ai (psS 2 c8.nd (bo aj)) (ai (eB PassesOwn.never rfl (dS (pv 0)) (nF rfl (cC (pgN 3 c8.nd) (cC (pgN 4 c8.nd) (cC (pgN 5 c8.nd) kF)))) (ai (psS 6 c8.nd (gM (d4 (pCf hr mK (aa (pv 3) aj))) (bo (aa (pv 4) (aa (bZ jW (pv 5) ao) aj))) (pDg hu (pv 1) (pv 4)))) (aq (psS 2 c8.nd (pCf hr Ih (aa (pv 2) (aa (pv 6) (aa (pCf hr q0 (aa (pv 3) aj)) aj)))))))) (aq (aK (pv 2)))))
abbrev lG:Stmt:=top 51
theorem fv:aP pB ["parts","inside","address"] (aB lG):=by walk_at "sc"
theorem BP {bJ b9:Sp} (B:Bl mg) (M:Mg K mg) (mK:FnAt P w K mg base 1 "is_range" ["form"] bJ) (q0:FnAt P w K mg base 1 "makes_yes" ["form"] b9):BD P w K mg base pB "parts_hold" lG 1 (nh K bJ b9):=fun f cdv A outer s H E hr=>have hu:=lA hr;(ai (psS 3 fv.nd zF) (ai (eB PassesOwn.never rfl (dS (pv 0)) (nF rfl (cC (pgN 4 fv.nd) (cC (pgN 5 fv.nd) (cC (pgN 6 fv.nd) kF)))) (ai (psS 7 fv.nd (gM (d4 (pCf hr mK (aa (pv 4) aj))) (oB dW dW (pv 5) (pv 2) (pv 6)) (pDg hu (pv 1) (pv 5)))) (aq (bN (d4 (pv 7)) (aq (psS 3 fv.nd (pCf hr q0 (aa (pv 4) aj)))) aY)))) (aq (aK (pv 3)))))
abbrev kC:Stmt:=inClass (top 49) 0
theorem zg:aP n6 ["self"] (aB kC):=by walk_at "sc"
theorem AA (B:Bl mg) (M:Mg K mg):BD P w K mg base n6 "Switch.__init__" kC 0 (mj K):=fun f cdv A outer s H E hr=>(ai (fx (pv 0) ao rfl) (ai (fx (pv 0) iC rfl) (ai (fx (pv 0) (bo aj) rfl) (ai (fx (pv 0) iC rfl) (aq (fx (pv 0) tD rfl))))))
abbrev fY:Stmt:=inClass (top 49) 1
theorem rE:aP i8 ["self"] (aB fY):=by walk_at "sc"
theorem r8 (B:Bl mg) (M:Mg K mg):BD P w K mg base i8 "Switch.has_begun" fY 0 (ig K):=fun f cdv A outer s H E hr=>(aq (aK (dU FH (pFl (pv 0)) ao (fy _))))
abbrev fF:Stmt:=inClass (top 49) 2
theorem ql:aP ip ["self","most"] (aB fF):=by walk_at "sc"
theorem qN (B:Bl mg) (M:Mg K mg):BD P w K mg base ip "Switch.begin_anew" fF 0 (gK K):=fun f cdv A outer s H E hr=>(ai (fx (pv 0) (pv 1) rfl) (ai (fx (pv 0) iC rfl) (ai (fx (pv 0) (bo aj) rfl) (ai (fx (pv 0) iC rfl) (aq (fx (pv 0) tD rfl))))))
abbrev fW:Stmt:=inClass (top 49) 3
theorem rD:aP i6 ["self","number","parts"] (aB fW):=by walk_at "sc"
theorem rZ (B:Bl mg) (M:Mg K mg):BD P w K mg base i6 "Switch.set_group" fW 0 (ic K):=fun f cdv A outer s H E hr=>have hu:=lA hr;(ai (D3 hu (pFl (pv 0)) (pv 1) (pv 2) rfl) (ai (fx (pv 0) iC rfl) (aq (fx (pv 0) tD rfl))))
abbrev fE:Stmt:=inClass (top 49) 4
theorem qj:aP il ["self","number"] (aB fE):=by walk_at "sc"
theorem qM (B:Bl mg) (M:Mg K mg):BD P w K mg base il "Switch.drop_group" fE 0 (gJ K):=fun f cdv A outer s H E hr=>(ai (cy (Lb (pFl (pv 0)) (pv 1) ⟨rfl,rfl,rfl,rfl⟩)) (ai (fx (pv 0) iC rfl) (aq (fx (pv 0) tD rfl))))
abbrev gB:Stmt:=inClass (top 49) 5
theorem sW:aP jH ["self","place","rule"] (aB gB):=by walk_at "sc"
theorem tU (B:Bl mg) (M:Mg K mg):BD P w K mg base jH "Switch.add_rule" gB 0 (iV K):=fun f cdv A outer s H E hr=>(ai (cy (pR PySem.F.plainAttrs_list PySem.F.slot_list_insert PySem.F.type_list_insert CN (pFl (pv 0)) (aa (pv 1) (aa (pv 2) aj)))) (aq (fx (pv 0) tD rfl)))
abbrev fZ:Stmt:=inClass (top 49) 6
theorem rF:aP i9 ["self","place"] (aB fZ):=by walk_at "sc"
theorem r9 (B:Bl mg) (M:Mg K mg):BD P w K mg base i9 "Switch.drop_rule" fZ 0 (ij K):=fun f cdv A outer s H E hr=>(ai (cy (pR PySem.F.plainAttrs_list PySem.F.slot_list_pop PySem.F.type_list_pop FO (pFl (pv 0)) (aa (pv 1) aj))) (aq (fx (pv 0) tD rfl)))
abbrev fX:Stmt:=inClass (top 49) 7
theorem ly:aP i7 ["self","place","target"] (aB fX):=by walk_at "sc"
theorem r0 (B:Bl mg) (M:Mg K mg):BD P w K mg base i7 "Switch.move_rule" fX 0 (ie K):=fun f cdv A outer s H E hr=>(ai (psS 3 ly.nd (pR PySem.F.plainAttrs_list PySem.F.slot_list_pop PySem.F.type_list_pop FO (pFl (pv 0)) (aa (pv 1) aj))) (ai (cy (pR PySem.F.plainAttrs_list PySem.F.slot_list_insert PySem.F.type_list_insert CN (pFl (pv 0)) (aa (pv 2) (aa (pv 3) aj)))) (aq (fx (pv 0) tD rfl))))
abbrev gA:Stmt:=inClass (top 49) 8
theorem mm:aP jG ["self","number"] (aB gA):=by walk_at "sc"
theorem tT {cI:Sp} (B:Bl mg) (M:Mg K mg) (xh:FnAt P w K mg base 2 "edges_of_parts" ["parts","known_edges"] cI):BD P w K mg base jG "Switch.edges_of" gA 2 (iU K cI):=fun f cdv A outer s H E hr=>have hu:=lA hr;(ai (eB PassesOwn.never rfl (dS (mx (Aa rfl) (by rfl) B.sorted vf (aa (pFl (pv 0)) aj))) (pgN 2 mm.nd) (aq (bN (PW.pt (mw (ptC dW (pv 2) (pv 1)) (kE (jU (gr hu (pv 2) (pFl (pv 0))))))) (aq (D3 hu (pFl (pv 0)) (pv 2) (pCf hr xh (aa (pDg hu (pFl (pv 0)) (pv 2)) (aa (pFl (pv 0)) aj))) rfl)) aY))) (aq (aK (pDg hu (pFl (pv 0)) (pv 1)))))
abbrev en:Stmt:=inClass (top 49) 9
theorem ox:aP gb ["self","side"] (aB en):=by walk_at "sc"
theorem oH {aA:Sp} (B:Bl mg) (M:Mg K mg) (bF:MethAt P w K mg base 3 ah "edges_of" ["self","number"] aA):BD P w K mg base gb "Switch.edges_of_side" en 3 (fG K ah aA):=fun f cdv A outer s H E hr=>(aq (aK (gM (ptC cF (pv 1) (pGi M.xE)) (bo (aa ao (aa (bZ jW (pGi M.fI) ao) aj))) (c9 bF (hr.mono (by decide)) (pv 0) (aa (pv 1) aj)))))
abbrev lH:Stmt:=top 43
theorem eO:aP pD ["switch"] (aB lH):=by walk_at "sc"
theorem BQ {bE bW bu dC cT lD fj mO:Sp} (B:Bl mg) (M:Mg K mg) (jI:MethAt P w K mg base 4 ah "edges_of_side" ["self","side"] bE) (lR:FnAt P w K mg base 3 "cover_runs" ["edges"] bW) (iF:FnAt P w K mg base 2 "cover_range" ["lo","hi"] bu) (vC:Ic P w K mg base 1 "Table" aX ["self","too_many","raw_count","rows"] dC) (yu:FnAt P w K mg base 2 "make_raw_rows" ["rule","sources","targets","ports"] cT) (Mc:FnAt P w K mg base 3 "thin" ["rows"] lD) (GA:FnAt P w K mg base 3 "join_rows" ["rows"] fj) (Qj:FnAt P w K mg base 1 "trim" ["rows"] mO):BD P w K mg base pD "make_table" lH 4 (ni K ah aX bE bW bu dC cT lD fj mO):=fun f cdv A outer s H E hr=>(ai (psS 1 eO.nd (bo aj)) (ai (eB PassesOwn.never rfl (dS (pFl (pv 0))) (pgN 2 eO.nd) (ai (psS 3 eO.nd (c9 jI (hr.mono (by decide)) (pv 0) (aa (pIt (pv 2) ao) aj))) (ai (psS 4 eO.nd (c9 jI (hr.mono (by decide)) (pv 0) (aa (pIt (pv 2) ao) aj))) (aq (bN (PW.pt (mw (uO (pv 3) (fun _=>rfl)) (kE (uO (pv 4) (fun _=>rfl))))) (ai (psS 5 eO.nd (pCf hr lR (aa (pv 3) aj))) (ai (psS 6 eO.nd (pCf hr lR (aa (pv 4) aj))) (ai (psS 7 eO.nd (pCf hr iF (aa (pIt (pv 2) ao) (aa (pIt (pv 2) ao) aj)))) (ai (bN (ptC FH (bZ jW (jC B (aa (pv 1) aj)) (bZ Lh (bZ Lh (jC B (aa (pv 5) aj)) (jC B (aa (pv 6) aj))) (jC B (aa (pv 7) aj)))) (pFl (pv 0))) (aq (aK (FD vC (hr.mono (by decide)) (by rfl) (aa zF (aa ao (aa (bo aj) aj)))))) aY) (aq (cy (pR PySem.F.plainAttrs_list PySem.F.slot_list_extend PySem.F.type_list_extend wj (pv 1) (aa (pCf hr yu (aa (pv 2) (aa (pv 5) (aa (pv 6) (aa (pv 7) aj))))) aj)))))))) aY))))) (aq (aK (FD vC (hr.mono (by decide)) (by rfl) (aa zF (aa (jC B (aa (pv 1) aj)) (aa (pCf hr Qj (aa (pCf hr Mc (aa (pCf hr GA (aa (pCf hr Mc (aa (pv 1) aj)) aj)) aj)) aj)) aj))))))))
abbrev fD:Stmt:=inClass (top 49) 10
theorem qi:aP ik ["self"] (aB fD):=by walk_at "sc"
theorem qL {eI:Sp} (B:Bl mg) (M:Mg K mg) (ES:FnAt P w K mg base 5 "make_table" ["switch"] eI):BD P w K mg base ik "Switch.find_table" fD 5 (gI K eI):=fun f cdv A outer s H E hr=>(ai (bN (jU (O8 (pFl (pv 0)))) (aq (fx (pv 0) (pCf hr ES (aa (pv 0) aj)) rfl)) aY) (aq (aK (pFl (pv 0)))))
abbrev dQ:Stmt:=inClass (top 49) 11
theorem fw:aP fK ["self","address"] (aB dQ):=by walk_at "sc"
theorem nN {eF:Sp} (B:Bl mg) (M:Mg K mg) (ER:FnAt P w K mg base 2 "parts_hold" ["parts","inside","address"] eF):BD P w K mg base fK "Switch.groups_holding" dQ 2 (fu K eF):=fun f cdv A outer s H E hr=>have hu:=lA hr;(ai (psS 2 fw.nd iC) (ai (eB PassesOwn.never rfl (dS (mx (Aa rfl) (by rfl) B.sorted vf (aa (pFl (pv 0)) aj))) (pgN 3 fw.nd) (aq (D3 hu (pv 2) (pv 3) (pCf hr ER (aa (pDg hu (pFl (pv 0)) (pv 3)) (aa (pv 2) (aa (pv 1) aj)))) rfl))) (aq (aK (pv 2)))))
abbrev ka:Stmt:=top 59
theorem y0:aP nP ["switch","number","part"] (aB ka):=by walk_at "sc"
theorem An {bJ bA:Sp} (B:Bl mg) (M:Mg K mg) (mK:FnAt P w K mg base 1 "is_range" ["form"] bJ) (j6:FnAt P w K mg base 1 "is_named_group" ["form"] bA):BD P w K mg base nP "refuse_part" ka 1 (lZ K bJ bA):=fun f cdv A outer s H E hr=>have hu:=lA hr;(ai (bN (ptC my (jC B (aa (pv 2) aj)) ao) (aq (aK (d7 cG ao))) aY) (ai (bN (d4 (pCf hr mK (aa (pIt (pv 2) ao) aj))) (aq (aK (gM (JG dW dW dW ao (pIt (pv 2) ao) (pIt (pv 2) ao) (pGi M.fI)) ao (d7 cG ao)))) aY) (ai (bN (PW.pt (qw (f6 (d4 (pCf hr j6 (aa (pIt (pv 2) ao) aj)))) (mv (ptC Lg (pIt (pv 2) ao) ao)))) (aq (aK (d7 cG ao))) aY) (aq (aK (gM (PW.pt (mw (jU (G8 hu (pIt (pv 2) ao) (pFl (pv 0)))) (kE (ptC my (pIt (pv 2) ao) (pv 1))))) ao (d7 cG ao)))))))
abbrev jz:Stmt:=top 58
theorem gg:aP mH ["switch","number","listed"] (aB jz):=by walk_at "sc"
theorem yk {dG cp:Sp} (B:Bl mg) (M:Mg K mg) (Cc:FnAt P w K mg base 2 "refuse_part" ["switch","number","part"] dG) (ua:MethAt P w K mg base 1 ah "set_group" ["self","number","parts"] cp):BD P w K mg base mH "answer_group" jz 2 (kT K ah dG cp):=fun f cdv A outer s H E hr=>(ai (bN (PW.pt (qw (f6 (kJ dW dW ao (pv 1) (pGi M.ph))) (mv (ptC FH (jC B (aa (pv 2) aj)) (pGi M.mD))))) (aq (aK (bo (aa (d7 cG ao) aj)))) aY) (ai (psS 3 gg.nd (bo aj)) (ai (eB PassesOwn.never rfl (rh (by rfl) B.range (aa ao (aa (jC B (aa (pv 2) aj)) (aa ao aj)))) (pgN 4 gg.nd) (ai (psS 5 gg.nd (CH sE (by rfl) B.tuple xF (aa (qz uy (pv 2) (mV (pv 4)) (mV (bZ jW (pv 4) ao))) aj))) (ai (psS 6 gg.nd (pCf hr Cc (aa (pv 0) (aa (pv 1) (aa (pv 5) aj))))) (ai (bN (ptC my (pv 6) ao) (aq (aK (bo (aa (pv 6) aj)))) aY) (aq (cy (wd (pv 3) (aa (pv 5) aj)))))))) (ai (cy (c9 ua (hr.mono (by decide)) (pv 0) (aa (pv 1) (aa (pv 3) aj)))) (aq (aK (bo (aa ao aj))))))))
abbrev mn:Stmt:=top 61
theorem qd:aP pz ["switch","number"] (aB mn):=by walk_at "sc"
theorem Gk (B:Bl mg) (M:Mg K mg):BD P w K mg base pz "rule_has" mn 0 (pZ K):=fun f cdv A outer s H E hr=>(aq (aK (mx (LW rfl) (by rfl) B.any C7 (aa (Iz (own:=[("rule",2)]) rfl qd.nd (dS (pFl (pv 0))) (by exact vg (N:=pz) (sc:=aB mn) (by decide +kernel)) (fun _ _ _ _ _=>(pgN 2 qd.nd)) (fun _ _ _ _ _=>yH) (fun _ _ _ _ _=>(zE (dU cF (pv 1) (pIt (pv 2) ao) (fy _)) (jV (dU cF (pv 1) (pIt (pv 2) ao) (fy _)))))) aj))))
abbrev mq:Stmt:=top 62
theorem mP:aP pC ["switch","number"] (aB mq):=by walk_at "sc"
theorem Gm {bA:Sp} (B:Bl mg) (M:Mg K mg) (j6:FnAt P w K mg base 1 "is_named_group" ["form"] bA):BD P w K mg base pC "part_has" mq 1 (p0 K bA):=fun f cdv A outer s H E hr=>(ai (Iu (eB PassesOwn.never rfl (JI (pFl (pv 0))) (pgN 2 mP.nd) (aq (bN (d4 (mx (LW rfl) (by rfl) B.any C7 (aa (Iz (own:=[("part",3)]) rfl mP.nd (dS (pv 2)) (by exact vg (N:=pC) (sc:=aB mq) (by decide +kernel)) (fun _ _ _ _ _=>(pgN 3 mP.nd)) (fun _ _ _ _ _=>yH) (fun _ _ _ _ _=>(nG (pCf hr j6 (aa (pIt (pv 3) ao) aj)) (jV (dU cF (pIt (pv 3) ao) (pv 1) (fy _)))))) aj))) (aq (aK zF)) aY)))) (aq (aK zF)))
abbrev g5:Stmt:=top 60
theorem uB:aP j5 ["switch","number"] (aB g5):=by walk_at "sc"
theorem vk {fN fO b7:Sp} (B:Bl mg) (M:Mg K mg) (Ie:FnAt P w K mg base 1 "rule_has" ["switch","number"] fN) (Ig:FnAt P w K mg base 2 "part_has" ["switch","number"] fO) (sv:MethAt P w K mg base 1 ah "drop_group" ["self","number"] b7):BD P w K mg base j5 "answer_nogroup" g5 2 (jo K ah fN fO b7):=fun f cdv A outer s H E hr=>have hu:=lA hr;(ai (bN (jU (gr hu (pv 1) (pFl (pv 0)))) (aq (aK (bo (aa (d7 cG ao) aj)))) aY) (ai (bN (PW.pt (qw (d4 (pCf hr Ie (aa (pv 0) (aa (pv 1) aj)))) (mv (d4 (pCf hr Ig (aa (pv 0) (aa (pv 1) aj))))))) (aq (aK (bo (aa (d7 cG ao) aj)))) aY) (ai (cy (c9 sv (hr.mono (by decide)) (pv 0) (aa (pv 1) aj))) (aq (aK (bo (aa ao aj)))))))
abbrev kn:Stmt:=top 63
theorem qf:aP nV ["switch","number"] (aB kn):=by walk_at "sc"
theorem Au {aA fi:Sp} (B:Bl mg) (M:Mg K mg) (bF:MethAt P w K mg base 3 ah "edges_of" ["self","number"] aA) (Gz:FnAt P w K mg base 1 "list_runs" ["edges"] fi):BD P w K mg base nV "answer_runs" kn 3 (l9 K ah aA fi):=fun f cdv A outer s H E hr=>have hu:=lA hr;(ai (bN (jU (gr hu (pv 1) (pFl (pv 0)))) (aq (aK (bo (aa (d7 cG ao) aj)))) aY) (ai (psS 2 qf.nd (pCf hr Gz (aa (c9 bF (hr.mono (by decide)) (pv 0) (aa (pv 1) aj)) aj))) (aq (aK (bZ Pa (bo (aa ao (aa (bZ MV (jC B (aa (pv 2) aj)) ao) aj))) (pv 2))))))
abbrev iM:Stmt:=top 64
theorem vS:aP lh ["switch","number","address"] (aB iM):=by walk_at "sc"
theorem wN {bV aU:Sp} (B:Bl mg) (M:Mg K mg) (lQ:FnAt P w K mg base 1 "is_address" ["number"] bV) (dX:MethAt P w K mg base 3 ah "groups_holding" ["self","address"] aU):BD P w K mg base lh "answer_member" iM 3 (jQ K ah bV aU):=fun f cdv A outer s H E hr=>have hu:=lA hr;(ai (bN (jU (gr hu (pv 1) (pFl (pv 0)))) (aq (aK (bo (aa (d7 cG ao) aj)))) aY) (ai (bN (f6 (d4 (pCf hr lQ (aa (pv 2) aj)))) (aq (aK (bo (aa (d7 cG ao) aj)))) aY) (aq (aK (bo (aa (gM (d4 (pDg hu (c9 dX (hr.mono (by decide)) (pv 0) (aa (pv 2) aj)) (pv 1))) ao ao) aj))))))
abbrev kh:Stmt:=top 65
theorem zb:aP nT ["switch","number"] (aB kh):=by walk_at "sc"
theorem Ar {aA cz:Sp} (B:Bl mg) (M:Mg K mg) (bF:MethAt P w K mg base 3 ah "edges_of" ["self","number"] aA) (vA:FnAt P w K mg base 1 "count_addresses" ["edges"] cz):BD P w K mg base nT "answer_size" kh 3 (l7 K ah aA cz):=fun f cdv A outer s H E hr=>have hu:=lA hr;(ai (bN (jU (gr hu (pv 1) (pFl (pv 0)))) (aq (aK (bo (aa (d7 cG ao) aj)))) aY) (aq (aK (bo (aa (pCf hr vA (aa (c9 bF (hr.mono (by decide)) (pv 0) (aa (pv 1) aj)) aj)) aj)))))
abbrev iP:Stmt:=top 6
theorem vU:aP lp ["switch","number"] (aB iP):=by walk_at "sc"
theorem wR {aA bW bS:Sp} (B:Bl mg) (M:Mg K mg) (bF:MethAt P w K mg base 3 ah "edges_of" ["self","number"] aA) (lR:FnAt P w K mg base 3 "cover_runs" ["edges"] bW) (n8:FnAt P w K mg base 1 "tell_blocks" ["blocks"] bS):BD P w K mg base lp "answer_blocks" iP 3 (jT K ah aA bW bS):=fun f cdv A outer s H E hr=>have hu:=lA hr;(ai (bN (jU (gr hu (pv 1) (pFl (pv 0)))) (aq (aK (bo (aa (d7 cG ao) aj)))) aY) (aq (aK (pCf hr n8 (aa (pCf hr lR (aa (c9 bF (hr.mono (by decide)) (pv 0) (aa (pv 1) aj)) aj)) aj)))))
abbrev jA:Stmt:=top 7
theorem pQ:aP mI ["bits","lo","hi"] (aB jA):=by walk_at "sc"
theorem yl {bu bS:Sp} (B:Bl mg) (M:Mg K mg) (iF:FnAt P w K mg base 2 "cover_range" ["lo","hi"] bu) (n8:FnAt P w K mg base 1 "tell_blocks" ["blocks"] bS):BD P w K mg base mI "answer_cover" jA 2 (kU K bu bS):=fun f cdv A outer s H E hr=>(ai (bN (f6 (kJ dW dW ao (pv 0) (pGi M.qJ))) (aq (aK (bo (aa (d7 cG ao) aj)))) aY) (ai (psS 3 pQ.nd (bZ o4 ao (pv 0))) (ai (bN (PW.pt (qw (f6 (kJ dW my ao (pv 1) (pv 3))) (mv (f6 (kJ dW my ao (pv 2) (pv 3)))))) (aq (aK (bo (aa (d7 cG ao) aj)))) aY) (aq (aK (pCf hr n8 (aa (pCf hr iF (aa (pv 1) (aa (pv 2) aj))) aj)))))))
abbrev kj:Stmt:=top 66
theorem zc:aP nU ["switch","number","other"] (aB kj):=by walk_at "sc"
theorem As {aA:Sp} (B:Bl mg) (M:Mg K mg) (bF:MethAt P w K mg base 3 ah "edges_of" ["self","number"] aA):BD P w K mg base nU "answer_same" kj 3 (l8 K ah aA):=fun f cdv A outer s H E hr=>have hu:=lA hr;(ai (bN (PW.pt (qw (jU (gr hu (pv 1) (pFl (pv 0)))) (mv (jU (gr hu (pv 2) (pFl (pv 0))))))) (aq (aK (bo (aa (d7 cG ao) aj)))) aY) (aq (aK (bo (aa (gM (ptC (O9 hr.units) (c9 bF (hr.mono (by decide)) (pv 0) (aa (pv 1) aj)) (c9 bF (hr.mono (by decide)) (pv 0) (aa (pv 2) aj))) ao ao) aj)))))
abbrev iN:Stmt:=top 67
theorem ow:aP lj ["switch","number","other"] (aB iN):=by walk_at "sc"
theorem wO {aA gx:Sp} (B:Bl mg) (M:Mg K mg) (bF:MethAt P w K mg base 3 ah "edges_of" ["self","number"] aA) (Ih:FnAt P w K mg base 1 "mark" ["edges","touched","yes"] gx):BD P w K mg base lj "answer_inside" iN 3 (jR K ah aA gx):=fun f cdv A outer s H E hr=>have hu:=lA hr;(ai (bN (PW.pt (qw (jU (gr hu (pv 1) (pFl (pv 0)))) (mv (jU (gr hu (pv 2) (pFl (pv 0))))))) (aq (aK (bo (aa (d7 cG ao) aj)))) aY) (ai (psS 3 ow.nd (pCf hr Ih (aa (c9 bF (hr.mono (by decide)) (pv 0) (aa (pv 1) aj)) (aa (c9 bF (hr.mono (by decide)) (pv 0) (aa (pv 2) aj)) (aa zF aj))))) (aq (aK (bo (aa (gM (uO (pv 3) (fun _=>rfl)) ao ao) aj))))))
abbrev lF:Stmt:=top 87
theorem cN:aP pA ["calls"] (aB lF):=by walk_at "sc"
theorem BO (B:Bl mg) (M:Mg K mg):BD P w K mg base pA "read_calls" lF 0 (nc K):=fun f cdv A outer s H E hr=>(ai (psS 1 cN.nd (bo aj)) (ai (psS 2 cN.nd ao) (ai (qx PassesOwn.never (ptC my (pv 2) (jC B (aa (pv 0) aj))) (ai (psS 3 cN.nd (pIl (pv 0) (pv 2))) (ai (psS 4 cN.nd (bZ jW (bZ jW (pv 2) ao) (pIt (MQ (by rfl) M.Ae) (pv 3)))) (ai (psS 5 cN.nd (qz uy (pv 0) (mV (bZ jW (pv 2) ao)) (mV (pv 4)))) (ai (psS 6 cN.nd (bo aj)) (ai (bN (ptC cF (pv 3) (pGi M.yL)) (ai (psS 7 cN.nd (bZ jW (pv 4) ao)) (ai (psS 4 cN.nd (bZ jW (pv 7) (pIl (pv 0) (pv 4)))) (aq (psS 6 cN.nd (qz uy (pv 0) (mV (pv 7)) (mV (pv 4))))))) aY) (ai (cy (wd (pv 1) (aa (tw (aa (pv 3) (aa (pv 5) (aa (pv 6) aj)))) aj))) (aq (psS 2 cN.nd (pv 4)))))))))) (aq (aK (pv 1))))))
abbrev fU:Stmt:=top 91
theorem lx:aP i4 ["rule"] (aB fU):=by walk_at "sc"
theorem rW (B:Bl mg) (M:Mg K mg):BD P w K mg base i4 "has_right_values" fU 0 (hZ K):=fun f cdv A outer s H E hr=>(ai (psS 1 lx.nd (zE (dU cF (pIt (pv 0) ao) ao (fy _)) (jV (dU cF (pIt (pv 0) ao) ao (fy _))))) (aq (aK (nG (pv 1) (nG (oB dW dW (pGi M.xE) (pIt (pv 0) ao) (pGi M.jg)) (jV (JK dW dW dW ao (pIt (pv 0) ao) (pIt (pv 0) ao) (pGi M.kN))))))))
abbrev rd:Stmt:=top 92
theorem GW:aP xf ["switch","number"] (aB rd):=by walk_at "sc"
theorem HU (B:Bl mg) (M:Mg K mg):BD P w K mg base xf "is_side" rd 0 (sI K):=fun f cdv A outer s H E hr=>have hu:=lA hr;(aq (aK (zE (dU cF (pv 1) (pGi M.xE) (fy _)) (jV (O7 (G8 hu (pv 1) (pFl (pv 0))))))))
abbrev kq:Stmt:=top 90
theorem zd:aP nW ["switch","place","rule"] (aB kq):=by walk_at "sc"
theorem Av {ck fS cB:Sp} (B:Bl mg) (M:Mg K mg) (t8:FnAt P w K mg base 1 "has_right_values" ["rule"] ck) (Df:FnAt P w K mg base 1 "is_side" ["switch","number"] fS) (vD:MethAt P w K mg base 1 ah "add_rule" ["self","place","rule"] cB):BD P w K mg base nW "answer_rule" kq 1 (ma K ah ck fS cB):=fun f cdv A outer s H E hr=>(ai (bN (f6 (kJ dW dW ao (pv 1) (jC B (aa (pFl (pv 0)) aj)))) (aq (aK (bo (aa (d7 cG ao) aj)))) aY) (ai (bN (f6 (d4 (pCf hr t8 (aa (pv 2) aj)))) (aq (aK (bo (aa (d7 cG ao) aj)))) aY) (ai (bN (PW.pt (qw (f6 (d4 (pCf hr Df (aa (pv 0) (aa (pIt (pv 2) ao) aj))))) (mv (f6 (d4 (pCf hr Df (aa (pv 0) (aa (pIt (pv 2) ao) aj)))))))) (aq (aK (bo (aa (d7 cG ao) aj)))) aY) (ai (bN (ptC Q6 (jC B (aa (pFl (pv 0)) aj)) (pGi M.pd)) (aq (aK (bo (aa (d7 cG ao) aj)))) aY) (ai (cy (c9 vD (hr.mono (by decide)) (pv 0) (aa (pv 1) (aa (pv 2) aj)))) (aq (aK (bo (aa ao aj)))))))))
abbrev uC:Stmt:=top 95
theorem JB:aP AN ["switch","place"] (aB uC):=by walk_at "sc"
theorem Kl (B:Bl mg) (M:Mg K mg):BD P w K mg base AN "stands" uC 0 (vI K):=fun f cdv A outer s H E hr=>(aq (aK (oB dW my ao (pv 1) (jC B (aa (pFl (pv 0)) aj)))))
abbrev iL:Stmt:=top 93
theorem vR:aP lg ["switch","place"] (aB iL):=by walk_at "sc"
theorem wM {dy cv:Sp} (B:Bl mg) (M:Mg K mg) (vz:FnAt P w K mg base 1 "stands" ["switch","place"] dy) (ud:MethAt P w K mg base 1 ah "drop_rule" ["self","place"] cv):BD P w K mg base lg "answer_norule" iL 1 (jP K ah dy cv):=fun f cdv A outer s H E hr=>(ai (bN (f6 (d4 (pCf hr vz (aa (pv 0) (aa (pv 1) aj))))) (aq (aK (bo (aa (d7 cG ao) aj)))) aY) (ai (cy (c9 ud (hr.mono (by decide)) (pv 0) (aa (pv 1) aj))) (aq (aK (bo (aa ao aj))))))
abbrev ku:Stmt:=top 94
theorem ze:aP nY ["switch","place","target"] (aB ku):=by walk_at "sc"
theorem Ax {dy cq:Sp} (B:Bl mg) (M:Mg K mg) (vz:FnAt P w K mg base 1 "stands" ["switch","place"] dy) (ub:MethAt P w K mg base 1 ah "move_rule" ["self","place","target"] cq):BD P w K mg base nY "answer_move" ku 1 (me K ah dy cq):=fun f cdv A outer s H E hr=>(ai (bN (PW.pt (qw (f6 (d4 (pCf hr vz (aa (pv 0) (aa (pv 1) aj))))) (mv (f6 (d4 (pCf hr vz (aa (pv 0) (aa (pv 2) aj)))))))) (aq (aK (bo (aa (d7 cG ao) aj)))) aY) (ai (cy (c9 ub (hr.mono (by decide)) (pv 0) (aa (pv 1) (aa (pv 2) aj)))) (aq (aK (bo (aa ao aj))))))
abbrev mU:Stmt:=top 97
theorem DP:aP qZ ["side","holding"] (aB mU):=by walk_at "sc"
theorem EI (B:Bl mg) (M:Mg K mg):BD P w K mg base qZ "fits_side" mU 0 (oO K):=fun f cdv A outer s H E hr=>have hu:=lA hr;(aq (aK (zE (dU cF (pv 0) (pGi M.xE) (fy _)) (jV (pDg hu (pv 1) (pv 0))))))
abbrev lO:Stmt:=top 96
theorem gp:aP pK ["switch","source","target","kind","port"] (aB lO):=by walk_at "sc"
theorem BY {cx aU eh:Sp} (B:Bl mg) (M:Mg K mg) (ra:FnAt P w K mg base 2 "is_packet" ["source","target","kind","port"] cx) (dX:MethAt P w K mg base 3 ah "groups_holding" ["self","address"] aU) (xG:FnAt P w K mg base 1 "fits_side" ["side","holding"] eh):BD P w K mg base pK "answer_ask" lO 3 (nz K ah cx aU eh):=fun f cdv A outer s H E hr=>(ai (bN (f6 (d4 (pCf hr ra (aa (pv 1) (aa (pv 2) (aa (pv 3) (aa (pv 4) aj))))))) (aq (aK (bo (aa (d7 cG ao) aj)))) aY) (ai (psS 5 gp.nd (c9 dX (hr.mono (by decide)) (pv 0) (aa (pv 1) aj))) (ai (psS 6 gp.nd (c9 dX (hr.mono (by decide)) (pv 0) (aa (pv 2) aj))) (ai (eB PassesOwn.never rfl (Iy (by rfl) B.enumerate (aa (pFl (pv 0)) aj)) (nF rfl (cC (pgN 7 gp.nd) (cC (pgN 8 gp.nd) kF))) (ai (psS 9 gp.nd (nG (pCf hr xG (aa (pIt (pv 8) ao) (aa (pv 5) aj))) (jV (pCf hr xG (aa (pIt (pv 8) ao) (aa (pv 6) aj)))))) (aq (bN (PW.pt (mw (d4 (pv 9)) (mw (PW.pt (qw (ptC cF (pIt (pv 8) ao) (pGi M.xE)) (mv (ptC cF (pIt (pv 8) ao) (pv 3))))) (kE (kJ dW dW (pIt (pv 8) ao) (pv 4) (pIt (pv 8) ao)))))) (aq (aK (bo (aa ao (aa (pIt (pv 8) ao) (aa (pv 7) aj)))))) aY)))) (aq (aK (bo (aa ao (aa ao (aa (d7 cG ao) aj))))))))))
abbrev jy:Stmt:=top 98
theorem kY:aP mG ["switch"] (aB jy):=by walk_at "sc"
theorem yj (B:Bl mg) (M:Mg K mg):BD P w K mg base mG "answer_rules" jy 0 (kS K):=fun f cdv A outer s H E hr=>(ai (psS 1 kY.nd (bo (aa ao (aa (jC B (aa (pFl (pv 0)) aj)) aj)))) (ai (eB PassesOwn.never rfl (dS (pFl (pv 0))) (pgN 2 kY.nd) (aq (cy (pR PySem.F.plainAttrs_list PySem.F.slot_list_extend PySem.F.type_list_extend zL (pv 1) (aa (pv 2) aj))))) (aq (aK (pv 1)))))
abbrev kr:Stmt:=top 100
theorem qh:aP nX ["switch"] (aB kr):=by walk_at "sc"
theorem Aw {aS:Sp} (B:Bl mg) (M:Mg K mg) (d8:MethAt P w K mg base 6 ah "find_table" ["self"] aS):BD P w K mg base nX "answer_rows" kr 6 (md K ah aS):=fun f cdv A outer s H E hr=>(ai (psS 1 qh.nd (rj d8 (hr.mono (by decide)) (pv 0))) (ai (bN (d4 (pFl (pv 1))) (aq (aK (bo (aa (d7 cG ao) aj)))) aY) (aq (aK (bo (aa ao (aa (pFl (pv 1)) (aa (jC B (aa (pFl (pv 1)) aj)) aj))))))))
abbrev lN:Stmt:=top 101
theorem iB:aP pJ ["switch","place"] (aB lN):=by walk_at "sc"
theorem BX {aS bT:Sp} (B:Bl mg) (M:Mg K mg) (d8:MethAt P w K mg base 6 ah "find_table" ["self"] aS) (n9:FnAt P w K mg base 2 "list_fields" ["row"] bT):BD P w K mg base pJ "answer_row" lN 6 (ny K ah aS bT):=fun f cdv A outer s H E hr=>(ai (psS 2 iB.nd (rj d8 (hr.mono (by decide)) (pv 0))) (ai (bN (d4 (pFl (pv 2))) (aq (aK (bo (aa (d7 cG ao) aj)))) aY) (ai (bN (f6 (kJ dW my ao (pv 1) (jC B (aa (pFl (pv 2)) aj)))) (aq (aK (bo (aa (d7 cG ao) aj)))) aY) (ai (psS 3 iB.nd (pIl (pFl (pv 2)) (pv 1))) (ai (psS 4 iB.nd (bo (aa ao (aa (pIt (pv 3) ao) aj)))) (ai (eB PassesOwn.never rfl (dS (pCf hr n9 (aa (pv 3) aj))) (pgN 5 iB.nd) (aq (cy (pR PySem.F.plainAttrs_list PySem.F.slot_list_extend PySem.F.type_list_extend zL (pv 4) (aa (pv 5) aj))))) (aq (aK (pv 4)))))))))
abbrev kx:Stmt:=top 102
theorem ml:aP nZ ["switch","source","target","kind","port"] (aB kx):=by walk_at "sc"
theorem Ay {cx aS bg fQ:Sp} (B:Bl mg) (M:Mg K mg) (ra:FnAt P w K mg base 2 "is_packet" ["source","target","kind","port"] cx) (d8:MethAt P w K mg base 6 ah "find_table" ["self"] aS) (gc:FnAt P w K mg base 1 "put_side_by_side" ["source","target","kind","port"] bg) (Ij:FnAt P w K mg base 1 "find_row" ["rows","packet"] fQ):BD P w K mg base nZ "answer_look" kx 6 (mf K ah cx aS bg fQ):=fun f cdv A outer s H E hr=>(ai (bN (f6 (d4 (pCf hr ra (aa (pv 1) (aa (pv 2) (aa (pv 3) (aa (pv 4) aj))))))) (aq (aK (bo (aa (d7 cG ao) aj)))) aY) (ai (psS 5 ml.nd (rj d8 (hr.mono (by decide)) (pv 0))) (ai (bN (d4 (pFl (pv 5))) (aq (aK (bo (aa (d7 cG ao) aj)))) aY) (ai (psS 6 ml.nd (pCf hr Ij (aa (pFl (pv 5)) (aa (pCf hr gc (aa (pv 1) (aa (pv 2) (aa (pv 3) (aa (pv 4) aj))))) aj)))) (aq (aK (bo (aa ao (aa (gM (ptC my (pv 6) ao) ao (pIt (pIl (pFl (pv 5)) (pv 6)) ao)) (aa (pv 6) aj))))))))))
abbrev jB:Stmt:=top 108
theorem xS:aP mJ ["switch","most"] (aB jB):=by walk_at "sc"
theorem ym {b8:Sp} (B:Bl mg) (M:Mg K mg) (sx:MethAt P w K mg base 1 ah "begin_anew" ["self","most"] b8):BD P w K mg base mJ "answer_begin" jB 1 (kW K ah b8):=fun f cdv A outer s H E hr=>(ai (bN (f6 (kJ dW dW ao (pv 1) (pGi M.k6))) (aq (aK (bo (aa (d7 cG ao) aj)))) aY) (ai (cy (c9 sx (hr.mono (by decide)) (pv 0) (aa (pv 1) aj))) (aq (aK (bo (aa ao aj))))))
abbrev iO:Stmt:=top 109
theorem vT:aP ll ["switch","number","numbers","parts"] (aB iO):=by walk_at "sc"
theorem wQ {dj gy dI gT ju:Sp} (B:Bl mg) (M:Mg K mg) (AQ:FnAt P w K mg base 3 "answer_group" ["switch","number","listed"] dj) (xj:FnAt P w K mg base 3 "answer_nogroup" ["switch","number"] gy) (Ci:FnAt P w K mg base 2 "answer_rule" ["switch","place","rule"] dI) (yy:FnAt P w K mg base 2 "answer_norule" ["switch","place"] gT) (Ck:FnAt P w K mg base 2 "answer_move" ["switch","place","target"] ju):BD P w K mg base ll "answer_change" iO 3 (jS K dj gy dI gT ju):=fun f cdv A outer s H E hr=>(ai (bN (ptC cF (pv 1) (pGi M.yL)) (aq (aK (pCf hr AQ (aa (pv 0) (aa (pIl (pv 2) ao) (aa (pv 3) aj)))))) aY) (ai (bN (ptC cF (pv 1) (pGi M.wH)) (aq (aK (pCf hr xj (aa (pv 0) (aa (pIl (pv 2) ao) aj))))) aY) (ai (bN (ptC cF (pv 1) (pGi M.HN)) (aq (aK (pCf hr Ci (aa (pv 0) (aa (pIl (pv 2) ao) (aa (CH sE (by rfl) B.tuple xF (aa (qz uy (pv 2) (mV ao) Iv) aj)) aj)))))) aY) (ai (bN (ptC cF (pv 1) (pGi M.Af)) (aq (aK (pCf hr yy (aa (pv 0) (aa (pIl (pv 2) ao) aj))))) aY) (aq (aK (pCf hr Ck (aa (pv 0) (aa (pIl (pv 2) ao) (aa (pIl (pv 2) ao) aj))))))))))
abbrev fV:Stmt:=top 110
theorem rC:aP i5 ["switch","number","numbers"] (aB fV):=by walk_at "sc"
theorem rY {js gU jq gX dn jr gW:Sp} (B:Bl mg) (M:Mg K mg) (Cg:FnAt P w K mg base 4 "answer_runs" ["switch","number"] js) (yz:FnAt P w K mg base 4 "answer_member" ["switch","number","address"] gU) (Ce:FnAt P w K mg base 4 "answer_size" ["switch","number"] jq) (yC:FnAt P w K mg base 4 "answer_blocks" ["switch","number"] gX) (AR:FnAt P w K mg base 3 "answer_cover" ["bits","lo","hi"] dn) (Cf:FnAt P w K mg base 4 "answer_same" ["switch","number","other"] jr) (yA:FnAt P w K mg base 4 "answer_inside" ["switch","number","other"] gW):BD P w K mg base i5 "answer_of_groups" fV 4 (ib K js gU jq gX dn jr gW):=fun f cdv A outer s H E hr=>(ai (bN (ptC cF (pv 1) (pGi M.HM)) (aq (aK (pCf hr Cg (aa (pv 0) (aa (pIl (pv 2) ao) aj))))) aY) (ai (bN (ptC cF (pv 1) (pGi M.Ag)) (aq (aK (pCf hr yz (aa (pv 0) (aa (pIl (pv 2) ao) (aa (pIl (pv 2) ao) aj)))))) aY) (ai (bN (ptC cF (pv 1) (pGi M.HK)) (aq (aK (pCf hr Ce (aa (pv 0) (aa (pIl (pv 2) ao) aj))))) aY) (ai (bN (ptC cF (pv 1) (pGi M.Ai)) (aq (aK (pCf hr yC (aa (pv 0) (aa (pIl (pv 2) ao) aj))))) aY) (ai (bN (ptC cF (pv 1) (pGi M.EC)) (aq (aK (pCf hr AR (aa (pIl (pv 2) ao) (aa (pIl (pv 2) ao) (aa (pIl (pv 2) ao) aj)))))) aY) (ai (bN (ptC cF (pv 1) (pGi M.HL)) (aq (aK (pCf hr Cf (aa (pv 0) (aa (pIl (pv 2) ao) (aa (pIl (pv 2) ao) aj)))))) aY) (aq (aK (pCf hr yA (aa (pv 0) (aa (pIl (pv 2) ao) (aa (pIl (pv 2) ao) aj))))))))))))
abbrev gz:Stmt:=top 111
theorem sV:aP jF ["switch","number","numbers"] (aB gz):=by walk_at "sc"
theorem tS {eN jt eM dJ iH:Sp} (B:Bl mg) (M:Mg K mg) (EX:FnAt P w K mg base 4 "answer_ask" ["switch","source","target","kind","port"] eN) (Cj:FnAt P w K mg base 7 "answer_rows" ["switch"] jt) (EW:FnAt P w K mg base 7 "answer_row" ["switch","place"] eM) (Cm:FnAt P w K mg base 7 "answer_look" ["switch","source","target","kind","port"] dJ) (AO:FnAt P w K mg base 1 "answer_rules" ["switch"] iH):BD P w K mg base jF "answer_of_rules" gz 7 (iT K eN jt eM dJ iH):=fun f cdv A outer s H E hr=>(ai (bN (ptC cF (pv 1) (pGi M.L0)) (aq (aK (pCf hr EX (aa (pv 0) (aa (pIl (pv 2) ao) (aa (pIl (pv 2) ao) (aa (pIl (pv 2) ao) (aa (pIl (pv 2) ao) aj)))))))) aY) (ai (bN (ptC cF (pv 1) (pGi M.HP)) (aq (aK (pCf hr Cj (aa (pv 0) aj)))) aY) (ai (bN (ptC cF (pv 1) (pGi M.LZ)) (aq (aK (pCf hr EW (aa (pv 0) (aa (pIl (pv 2) ao) aj))))) aY) (ai (bN (ptC cF (pv 1) (pGi M.HR)) (aq (aK (pCf hr Cm (aa (pv 0) (aa (pIl (pv 2) ao) (aa (pIl (pv 2) ao) (aa (pIl (pv 2) ao) (aa (pIl (pv 2) ao) aj)))))))) aY) (aq (aK (pCf hr AO (aa (pv 0) aj))))))))
abbrev kz:Stmt:=top 107
theorem zf:aP n0 ["switch","number","numbers","parts"] (aB kz):=by walk_at "sc"
theorem Az {dq cu cW cn cA:Sp} (B:Bl mg) (M:Mg K mg) (AS:FnAt P w K mg base 2 "answer_begin" ["switch","most"] dq) (uc:MethAt P w K mg base 1 ah "has_begun" ["self"] cu) (yB:FnAt P w K mg base 4 "answer_change" ["switch","number","numbers","parts"] cW) (t9:FnAt P w K mg base 5 "answer_of_groups" ["switch","number","numbers"] cn) (vB:FnAt P w K mg base 8 "answer_of_rules" ["switch","number","numbers"] cA):BD P w K mg base n0 "answer_call" kz 8 (mh K ah dq cu cW cn cA):=fun f cdv A outer s H E hr=>(ai (bN (ptC cF (pv 1) (pGi M.ED)) (aq (aK (pCf hr AS (aa (pv 0) (aa (pIl (pv 2) ao) aj))))) aY) (ai (bN (f6 (d4 (rj uc (hr.mono (by decide)) (pv 0)))) (aq (aK (bo (aa (pGi M.qI) aj)))) aY) (ai (bN (ptC dW (pv 1) (pGi M.HQ)) (aq (aK (pCf hr yB (aa (pv 0) (aa (pv 1) (aa (pv 2) (aa (pv 3) aj))))))) aY) (ai (bN (ptC dW (pv 1) (pGi M.Ah)) (aq (aK (pCf hr t9 (aa (pv 0) (aa (pv 1) (aa (pv 2) aj)))))) aY) (aq (aK (pCf hr vB (aa (pv 0) (aa (pv 1) (aa (pv 2) aj))))))))))
abbrev oy:Stmt:=top 106
theorem iX:aP xg ["calls"] (aB oy):=by walk_at "sc"
theorem HV {dN eE dM:Sp} (B:Bl mg) (M:Mg K mg) (Co:Ic P w K mg base 1 "Switch" ah ["self"] dN) (EO:FnAt P w K mg base 1 "read_calls" ["calls"] eE) (Cn:FnAt P w K mg base 9 "answer_call" ["switch","number","numbers","parts"] dM):BD P w K mg base xg "answers" oy 9 (sJ K ah dN eE dM):=fun f cdv A outer s H E hr=>(ai (psS 1 iX.nd (K9 Co (hr.mono (by decide)) (by rfl))) (ai (psS 2 iX.nd (bo aj)) (ai (eB PassesOwn.never rfl (dS (pCf hr EO (aa (pv 0) aj))) (nF rfl (cC (pgN 3 iX.nd) (cC (pgN 4 iX.nd) (cC (pgN 5 iX.nd) kF)))) (ai (psS 6 iX.nd (pCf hr Cn (aa (pv 1) (aa (pv 3) (aa (pv 4) (aa (pv 5) aj)))))) (ai (cy (wd (pv 2) (aa (jC B (aa (pv 6) aj)) aj))) (aq (cy (pR PySem.F.plainAttrs_list PySem.F.slot_list_extend PySem.F.type_list_extend wj (pv 2) (aa (pv 6) aj))))))) (aq (aK (pv 2))))))
end
end Sw
set_option maxRecDepth 100000
set_option maxHeartbeats 4000000
namespace Sw
open PySem PySem.Spec PyProof.Rows L2 L3
def cw (K:Frag) (x:Str) (i:Int):Prop:=∃ tk,PySem.W.nsIn K mainGlobals x=some (some (.int i tk))
theorem Nl {K:Frag} {x:Str} {i:Int} {tk:Tok} (h:PySem.W.nsIn K mainGlobals x=some (some (.int i tk))):cw K x i:=⟨tk,h⟩
theorem cw.mg {K:Frag} {h:Heap} {mg:Str->Option Value} {x:Str} {i:Int} (c:cw K x i) (X:K.In h) (G:h.Ns mainGlobals mg):∃ tk,mg x=some (.int i tk):=let ⟨tk,e⟩:=c;⟨tk,xk X G e⟩
def bK (K:Frag) (x:Str) (st:Stmt):Prop:=∃ (f:Addr) (od an:Option Addr) (sl:Array (Option Value)) (oc kV dc pm cd ct:Value),PySem.W.nsIn K mainGlobals x=some (some (.ref f))/\K.lookup f=some ⟨oc,od,.func (PySem.W.fnOf x x (iQ st) (gC st) (aB st) .none kV dc pm an cd ct),sl⟩/\PySem.W.codeIn K cd x=true/\PySem.W.keepIn K (.ref f)=true
def jL (K:Frag) (C:Addr) (x q:Str) (st:Stmt):Prop:=∃ (f:Addr) (od an:Option Addr) (sl:Array (Option Value)) (oc kV dc pm cd ct:Value),PySem.W.findIn K (.ref C) x=some (some (.ref f))/\PySem.W.isFn K (.ref f)=true/\K.lookup f=some ⟨oc,od,.func (PySem.W.fnOf x q (iQ st) (gC st) (aB st) .none kV dc pm an cd ct),sl⟩/\PySem.W.codeIn K cd q=true/\PySem.W.keepIn K (.ref f)=true
section
variable {K:Frag} {h:Heap} {mg:Str->Option Value} {C:Addr} {x q:Str} {st:Stmt} {ps:List Str} {f:Addr} {od an:Option Addr} {sl:Array (Option Value)} {oc kV dc pm cd ct:Value}
theorem PX (a:PySem.W.nsIn K mainGlobals x=some (some (.ref f))) (l:K.lookup f=some ⟨oc,od,.func (PySem.W.fnOf x x (iQ st) (gC st) (aB st) .none kV dc pm an cd ct),sl⟩) (c:PySem.W.codeIn K cd x=true) (k:PySem.W.keepIn K (.ref f)=true):bK K x st:=⟨_,_,_,_,_,_,_,_,_,_,a,l,c,k⟩
theorem Pd (a:PySem.W.findIn K (.ref C) x=some (some (.ref f))) (i:PySem.W.isFn K (.ref f)=true) (l:K.lookup f=some ⟨oc,od,.func (PySem.W.fnOf x q (iQ st) (gC st) (aB st) .none kV dc pm an cd ct),sl⟩) (c:PySem.W.codeIn K cd q=true) (k:PySem.W.keepIn K (.ref f)=true):jL K C x q st:=⟨_,_,_,_,_,_,_,_,_,_,a,i,l,c,k⟩
theorem bK.tx (s:bK K x st) (X:K.In h) (G:h.Ns mainGlobals mg) (hb:∀ (kV doc pm:Value) (an:Option Addr) (cdv ct:Value) (us:List Value),us.length=ps.length->bindArgs (PySem.W.fnOf x x (iQ st) (gC st) (aB st) .none kV doc pm an cdv ct) ⟨us,[]⟩=pure (ps.zip us)):cO K mg x x st ps:=by
 obtain ⟨f,od,an,sl,oc,kV,dc,pm,cd,ct,a,l,c,k⟩:=s
 exact ⟨⟨_,_,xk X G a,wz l c k,(wz l c k).binds hb⟩⟩
theorem jL.tx (s:jL K C x q st) (hb:∀ (kV doc pm:Value) (an:Option Addr) (cdv ct:Value) (us:List Value),us.length=ps.length->bindArgs (PySem.W.fnOf x q (iQ st) (gC st) (aB st) .none kV doc pm an cdv ct) ⟨us,[]⟩=pure (ps.zip us)):vx K C x q st ps:=by
 obtain ⟨f,od,an,sl,oc,kV,dc,pm,cd,ct,a,i,l,c,k⟩:=s
 exact ⟨⟨_,_,⟨a,i,k⟩,wz l c k,(wz l c k).binds hb⟩⟩
theorem jL.ix (s:jL K C "__init__" q st) (mk:PySem.W.makesIn K C=true) (kc:PySem.W.keepIn K (.ref C)=true) (hb:∀ (kV doc pm:Value) (an:Option Addr) (cdv ct:Value) (us:List Value),us.length=ps.length->bindArgs (PySem.W.fnOf "__init__" q (iQ st) (gC st) (aB st) .none kV doc pm an cdv ct) ⟨us,[]⟩=pure (ps.zip us)):Mb K C q st ps:=by
 obtain ⟨f,od,an,sl,oc,kV,dc,pm,cd,ct,a,i,l,c,k⟩:=s
 exact ⟨⟨_,_,⟨mk,a,i,kc⟩,wz l c k,(wz l c k).binds hb⟩⟩
end
structure Txt (K:Frag) (mg:Str->Option Value) (ah:Addr) (aX:Addr):Prop where
 bl:Bl mg
 mc:Mg K mg
 fh:Cls K ah
 Kg:mg "Switch"=some (.ref ah)
 mz:dr K ah "most"
 jX:dr K ah "groups"
 kZ:dr K ah "rules"
 gw:dr K ah "known_edges"
 gv:dr K ah "known_table"
 LY:Cls K aX
 LX:mg "Table"=some (.ref aX)
 jD:dr K aX "too_many"
 iY:dr K aX "raw_count"
 nJ:dr K aX "rows"
 GN:cO K mg "is_range" "is_range" oU ["form"]
 vJ:cO K mg "is_named_group" "is_named_group" gY ["form"]
 Fg:cO K mg "makes_yes" "makes_yes" mQ ["form"]
 ON:cO K mg "mark" "mark" DS ["edges","touched","yes"]
 Fh:cO K mg "list_runs" "list_runs" mR ["edges"]
 ur:cO K mg "count_addresses" "count_addresses" fm ["edges"]
 DF:cO K mg "count_free" "count_free" lM ["first","hi"]
 A5:cO K mg "cover_range" "cover_range" kg ["lo","hi"]
 DE:cO K mg "cover_runs" "cover_runs" lL ["edges"]
 AX:cO K mg "tell_blocks" "tell_blocks" j9 ["blocks"]
 DD:cO K mg "is_address" "is_address" lK ["number"]
 Fj:cO K mg "is_packet" "is_packet" mT ["source","target","kind","port"]
 sL:cO K mg "put_side_by_side" "put_side_by_side" fT ["source","target","kind","port"]
 Dx:cO K mg "take_apart" "take_apart" lE ["number"]
 AZ:cO K mg "list_fields" "list_fields" ke ["row"]
 sN:cO K mg "fields_of_blocks" "fields_of_blocks" eX ["blocks","bits"]
 xJ:cO K mg "field_of_kind" "field_of_kind" iJ ["kind"]
 xI:cO K mg "make_raw_rows" "make_raw_rows" iI ["rule","sources","targets","ports"]
 DB:cO K mg "is_one_bit" "is_one_bit" lI ["number"]
 xK:cO K mg "can_be_joined" "can_be_joined" iK ["first","second"]
 GL:cO K mg "join_two" "join_two" oT ["first","second"]
 Fi:cO K mg "join_rows" "join_rows" mS ["rows"]
 OL:cO K mg "trim" "trim" DQ ["rows"]
 GO:cO K mg "find_row" "find_row" oV ["rows","packet"]
 A0:cO K mg "file_fields" "file_fields" kf ["fields","filed"]
 vL:cO K mg "covering_files" "covering_files" g4 ["files","value","mask"]
 DC:cO K mg "is_covered" "is_covered" lJ ["fields","filed"]
 OM:cO K mg "thin" "thin" DR ["rows"]
 DI:Mb K aX "Table.__init__" lP ["self","too_many","raw_count","rows"]
 vK:cO K mg "edges_of_parts" "edges_of_parts" gZ ["parts","known_edges"]
 Dz:cO K mg "parts_hold" "parts_hold" lG ["parts","inside","address"]
 Be:Mb K ah "Switch.__init__" kC ["self"]
 sR:vx K ah "has_begun" "Switch.has_begun" fY ["self"]
 rB:vx K ah "begin_anew" "Switch.begin_anew" fF ["self","most"]
 sP:vx K ah "set_group" "Switch.set_group" fW ["self","number","parts"]
 rA:vx K ah "drop_group" "Switch.drop_group" fE ["self","number"]
 uw:vx K ah "add_rule" "Switch.add_rule" gB ["self","place","rule"]
 sS:vx K ah "drop_rule" "Switch.drop_rule" fZ ["self","place"]
 sQ:vx K ah "move_rule" "Switch.move_rule" fX ["self","place","target"]
 uv:vx K ah "edges_of" "Switch.edges_of" gA ["self","number"]
 oP:vx K ah "edges_of_side" "Switch.edges_of_side" en ["self","side"]
 DA:cO K mg "make_table" "make_table" lH ["switch"]
 rz:vx K ah "find_table" "Switch.find_table" fD ["self"]
 oo:vx K ah "groups_holding" "Switch.groups_holding" dQ ["self","address"]
 AY:cO K mg "refuse_part" "refuse_part" ka ["switch","number","part"]
 yU:cO K mg "answer_group" "answer_group" jz ["switch","number","listed"]
 GJ:cO K mg "rule_has" "rule_has" mn ["switch","number"]
 GK:cO K mg "part_has" "part_has" mq ["switch","number"]
 vM:cO K mg "answer_nogroup" "answer_nogroup" g5 ["switch","number"]
 A8:cO K mg "answer_runs" "answer_runs" kn ["switch","number"]
 xN:cO K mg "answer_member" "answer_member" iM ["switch","number","address"]
 A6:cO K mg "answer_size" "answer_size" kh ["switch","number"]
 xQ:cO K mg "answer_blocks" "answer_blocks" iP ["switch","number"]
 yV:cO K mg "answer_cover" "answer_cover" jA ["bits","lo","hi"]
 A7:cO K mg "answer_same" "answer_same" kj ["switch","number","other"]
 xO:cO K mg "answer_inside" "answer_inside" iN ["switch","number","other"]
 Dy:cO K mg "read_calls" "read_calls" lF ["calls"]
 sM:cO K mg "has_right_values" "has_right_values" fU ["rule"]
 Jt:cO K mg "is_side" "is_side" rd ["switch","number"]
 A9:cO K mg "answer_rule" "answer_rule" kq ["switch","place","rule"]
 Ky:cO K mg "stands" "stands" uC ["switch","place"]
 xM:cO K mg "answer_norule" "answer_norule" iL ["switch","place"]
 Bb:cO K mg "answer_move" "answer_move" ku ["switch","place","target"]
 Fl:cO K mg "fits_side" "fits_side" mU ["side","holding"]
 DH:cO K mg "answer_ask" "answer_ask" lO ["switch","source","target","kind","port"]
 yT:cO K mg "answer_rules" "answer_rules" jy ["switch"]
 Ba:cO K mg "answer_rows" "answer_rows" kr ["switch"]
 DG:cO K mg "answer_row" "answer_row" lN ["switch","place"]
 Bc:cO K mg "answer_look" "answer_look" kx ["switch","source","target","kind","port"]
 yW:cO K mg "answer_begin" "answer_begin" jB ["switch","most"]
 xP:cO K mg "answer_change" "answer_change" iO ["switch","number","numbers","parts"]
 sO:cO K mg "answer_of_groups" "answer_of_groups" fV ["switch","number","numbers"]
 uu:cO K mg "answer_of_rules" "answer_of_rules" gz ["switch","number","numbers"]
 Bd:cO K mg "answer_call" "answer_call" kz ["switch","number","numbers","parts"]
 Ju:cO K mg "answers" "answers" oy ["calls"]
theorem OJ {K:Frag} {h:Heap} {mg:Str->Option Value} (X:K.In h) (G:h.Ns mainGlobals mg)
 {Fx:Addr} {JO:Option Addr} {Lo:Nat} {JA:Array (Option Value)} {Ff Fe Fd Fc Fb E9 E8 E7 E6 E5 Du Dt Ds Dr Dq Dn Dm Dl:Tok}
 {ah:Addr}
 {aX:Addr}
 (RS:PySem.W.nsIn K mainGlobals "len"=some none)
 (NL:PySem.W.nsIn K mainGlobals "range"=some none)
 (RP:PySem.W.nsIn K mainGlobals "sum"=some none)
 (RT:PySem.W.nsIn K mainGlobals "any"=some none)
 (RU:PySem.W.nsIn K mainGlobals "all"=some none)
 (L6:PySem.W.nsIn K mainGlobals "sorted"=some none)
 (NK:PySem.W.nsIn K mainGlobals "tuple"=some none)
 (Qc:PySem.W.nsIn K mainGlobals "list"=some none)
 (RQ:PySem.W.nsIn K mainGlobals "min"=some none)
 (RR:PySem.W.nsIn K mainGlobals "max"=some none)
 (Gr:PySem.W.nsIn K mainGlobals "enumerate"=some none)
 (HW:PySem.W.nsIn K mainGlobals "reversed"=some none)
 (RO:PySem.W.nsIn K mainGlobals "zip"=some none)
 (pb:cw K "RANGE_IN" (0))
 (qH:cw K "RANGE_OUT" (1))
 (pj:cw K "GROUP_IN" (2))
 (qK:cw K "GROUP_OUT" (3))
 (fI:cw K "LAST_ADDRESS" (4294967295))
 (jg:cw K "LAST_KIND" (255))
 (kN:cw K "LAST_PORT" (65535))
 (fJ:cw K "ADDRESS_BITS" (32))
 (m5:cw K "KIND_BITS" (8))
 (kM:cw K "PORT_BITS" (16))
 (xE:cw K "ALL" (-1))
 (ph:cw K "LAST_GROUP" (15))
 (mD:cw K "MOST_NUMBERS" (48))
 (qJ:cw K "MOST_BITS" (32))
 (Ae:PySem.W.nsIn K mainGlobals "WIDTHS"=some (some (.ref Fx)))
 (Lu:K.lookup Fx=some ⟨.type "tuple",JO,.seq #[.int (1) Ff,.int (1) Fe,.int (1) Fd,.int (7) Fc,.int (1) Fb,.int (2) E9,.int (1) E8,.int (2) E7,.int (1) E6,.int (1) E5,.int (3) Du,.int (2) Dt,.int (2) Ds,.int (4) Dr,.int (0) Dq,.int (1) Dn,.int (4) Dm,.int (0) Dl] Lo,JA⟩)
 (yL:cw K "GROUP" (1))
 (pd:cw K "MOST_RULES" (32))
 (k6:cw K "GREATEST_MOST" (1024))
 (wH:cw K "NOGROUP" (2))
 (HN:cw K "RULE" (3))
 (Af:cw K "NORULE" (4))
 (HM:cw K "RUNS" (6))
 (Ag:cw K "MEMBER" (7))
 (HK:cw K "SIZE" (8))
 (Ai:cw K "BLOCKS" (9))
 (EC:cw K "COVER" (10))
 (HL:cw K "SAME" (11))
 (L0:cw K "ASK" (13))
 (HP:cw K "ROWS" (14))
 (LZ:cw K "ROW" (15))
 (HR:cw K "LOOK" (16))
 (ED:cw K "BEGIN" (0))
 (qI:cw K "NOT_BEGUN" (-20))
 (HQ:cw K "MOVE" (5))
 (Ah:cw K "INSIDE" (12))
 (Ly:PySem.W.nsIn K mainGlobals "Switch"=some (some (.ref ah)))
 (JJ:PySem.W.plainGet K ah Str.empty=true)
 (J2:PySem.W.hasDictIn K ah=true)
 (JH:PySem.W.plainOver K ah=true)
 (JC:PySem.W.findIn K (.ref ah) "__setattr__"=some (some (.builtin "object.__setattr__")))
 (JQ:PySem.W.makesIn K ah=true)
 (JX:PySem.W.keepIn K (.ref ah)=true)
 (mz:PySem.W.findIn K (.ref ah) "most"=some none)
 (jX:PySem.W.findIn K (.ref ah) "groups"=some none)
 (kZ:PySem.W.findIn K (.ref ah) "rules"=some none)
 (gw:PySem.W.findIn K (.ref ah) "known_edges"=some none)
 (gv:PySem.W.findIn K (.ref ah) "known_table"=some none)
 (Nj:PySem.W.nsIn K mainGlobals "Table"=some (some (.ref aX)))
 (K7:PySem.W.plainGet K aX Str.empty=true)
 (LK:PySem.W.hasDictIn K aX=true)
 (K2:PySem.W.plainOver K aX=true)
 (KP:PySem.W.findIn K (.ref aX) "__setattr__"=some (some (.builtin "object.__setattr__")))
 (Lp:PySem.W.makesIn K aX=true)
 (Lx:PySem.W.keepIn K (.ref aX)=true)
 (jD:PySem.W.findIn K (.ref aX) "too_many"=some none)
 (iY:PySem.W.findIn K (.ref aX) "raw_count"=some none)
 (nJ:PySem.W.findIn K (.ref aX) "rows"=some none)
 (HA:bK K "is_range" oU)
 (wt:bK K "is_named_group" gY)
 (F3:bK K "makes_yes" mQ)
 (PQ:bK K "mark" DS)
 (F4:bK K "list_runs" mR)
 (uZ:bK K "count_addresses" fm)
 (El:bK K "count_free" lM)
 (BB:bK K "cover_range" kg)
 (Ek:bK K "cover_runs" lL)
 (Bx:bK K "tell_blocks" j9)
 (Ej:bK K "is_address" lK)
 (F6:bK K "is_packet" mT)
 (tG:bK K "put_side_by_side" fT)
 (Ec:bK K "take_apart" lE)
 (Bz:bK K "list_fields" ke)
 (tI:bK K "fields_of_blocks" eX)
 (x9:bK K "field_of_kind" iJ)
 (x8:bK K "make_raw_rows" iI)
 (Eh:bK K "is_one_bit" lI)
 (ya:bK K "can_be_joined" iK)
 (Hz:bK K "join_two" oT)
 (F5:bK K "join_rows" mS)
 (PM:bK K "trim" DQ)
 (HB:bK K "find_row" oV)
 (BA:bK K "file_fields" kf)
 (wx:bK K "covering_files" g4)
 (Ei:bK K "is_covered" lJ)
 (PN:bK K "thin" DR)
 (Eo:jL K aX "__init__" "Table.__init__" lP)
 (wu:bK K "edges_of_parts" gZ)
 (Ef:bK K "parts_hold" lG)
 (BL:jL K ah "__init__" "Switch.__init__" kC)
 (tM:jL K ah "has_begun" "Switch.has_begun" fY)
 (rS:jL K ah "begin_anew" "Switch.begin_anew" fF)
 (tK:jL K ah "set_group" "Switch.set_group" fW)
 (rR:jL K ah "drop_group" "Switch.drop_group" fE)
 (u5:jL K ah "add_rule" "Switch.add_rule" gB)
 (tN:jL K ah "drop_rule" "Switch.drop_rule" fZ)
 (tL:jL K ah "move_rule" "Switch.move_rule" fX)
 (u4:jL K ah "edges_of" "Switch.edges_of" gA)
 (o6:jL K ah "edges_of_side" "Switch.edges_of_side" en)
 (Eg:bK K "make_table" lH)
 (rQ:jL K ah "find_table" "Switch.find_table" fD)
 (oE:jL K ah "groups_holding" "Switch.groups_holding" dQ)
 (By:bK K "refuse_part" ka)
 (zW:bK K "answer_group" jz)
 (Hx:bK K "rule_has" mn)
 (Hy:bK K "part_has" mq)
 (wy:bK K "answer_nogroup" g5)
 (BF:bK K "answer_runs" kn)
 (yc:bK K "answer_member" iM)
 (BC:bK K "answer_size" kh)
 (yf:bK K "answer_blocks" iP)
 (zX:bK K "answer_cover" jA)
 (BE:bK K "answer_same" kj)
 (yd:bK K "answer_inside" iN)
 (Ee:bK K "read_calls" lF)
 (tH:bK K "has_right_values" fU)
 (J4:bK K "is_side" rd)
 (BG:bK K "answer_rule" kq)
 (LM:bK K "stands" uC)
 (yb:bK K "answer_norule" iL)
 (BI:bK K "answer_move" ku)
 (F7:bK K "fits_side" mU)
 (En:bK K "answer_ask" lO)
 (zV:bK K "answer_rules" jy)
 (BH:bK K "answer_rows" kr)
 (Em:bK K "answer_row" lN)
 (BJ:bK K "answer_look" kx)
 (zY:bK K "answer_begin" jB)
 (ye:bK K "answer_change" iO)
 (tJ:bK K "answer_of_groups" fV)
 (u0:bK K "answer_of_rules" gz)
 (BK:bK K "answer_call" kz)
 (J5:bK K "answers" oy) :
 Txt K mg ah aX :=
 ⟨⟨bX X G RS,bX X G NL,bX X G RP,bX X G RT,bX X G RU,bX X G L6,bX X G NK,bX X G Qc,bX X G RQ,bX X G RR,bX X G Gr,bX X G HW,bX X G RO⟩,
  ⟨pb.mg X G,qH.mg X G,pj.mg X G,qK.mg X G,fI.mg X G,jg.mg X G,kN.mg X G,fJ.mg X G,m5.mg X G,kM.mg X G,xE.mg X G,ph.mg X G,mD.mg X G,qJ.mg X G,Nw (xk X G Ae) Lu rfl rfl (by show 18<=sizeLine;decide) (.cons ⟨_,rfl⟩ <| .cons ⟨_,rfl⟩ <| .cons ⟨_,rfl⟩ <| .cons ⟨_,rfl⟩ <| .cons ⟨_,rfl⟩ <| .cons ⟨_,rfl⟩ <| .cons ⟨_,rfl⟩ <| .cons ⟨_,rfl⟩ <| .cons ⟨_,rfl⟩ <| .cons ⟨_,rfl⟩ <| .cons ⟨_,rfl⟩ <| .cons ⟨_,rfl⟩ <| .cons ⟨_,rfl⟩ <| .cons ⟨_,rfl⟩ <| .cons ⟨_,rfl⟩ <| .cons ⟨_,rfl⟩ <| .cons ⟨_,rfl⟩ <| .cons ⟨_,rfl⟩ <| .nil),yL.mg X G,pd.mg X G,k6.mg X G,wH.mg X G,HN.mg X G,Af.mg X G,HM.mg X G,Ag.mg X G,HK.mg X G,Ai.mg X G,EC.mg X G,HL.mg X G,L0.mg X G,HP.mg X G,LZ.mg X G,HR.mg X G,ED.mg X G,qI.mg X G,HQ.mg X G,Ah.mg X G⟩,
  ⟨JJ,J2,JH,JC⟩,
  xk X G Ly,
  mz,
  jX,
  kZ,
  gw,
  gv,
  ⟨K7,LK,K2,KP⟩,
  xk X G Nj,
  jD,
  iY,
  nJ,
  HA.tx X G fun _ _ _ _ _ _ us hl=>match us,hl with | [_],_=>rfl,
  wt.tx X G fun _ _ _ _ _ _ us hl=>match us,hl with | [_],_=>rfl,
  F3.tx X G fun _ _ _ _ _ _ us hl=>match us,hl with | [_],_=>rfl,
  PQ.tx X G fun _ _ _ _ _ _ us hl=>match us,hl with | [_,_,_],_=>rfl,
  F4.tx X G fun _ _ _ _ _ _ us hl=>match us,hl with | [_],_=>rfl,
  uZ.tx X G fun _ _ _ _ _ _ us hl=>match us,hl with | [_],_=>rfl,
  El.tx X G fun _ _ _ _ _ _ us hl=>match us,hl with | [_,_],_=>rfl,
  BB.tx X G fun _ _ _ _ _ _ us hl=>match us,hl with | [_,_],_=>rfl,
  Ek.tx X G fun _ _ _ _ _ _ us hl=>match us,hl with | [_],_=>rfl,
  Bx.tx X G fun _ _ _ _ _ _ us hl=>match us,hl with | [_],_=>rfl,
  Ej.tx X G fun _ _ _ _ _ _ us hl=>match us,hl with | [_],_=>rfl,
  F6.tx X G fun _ _ _ _ _ _ us hl=>match us,hl with | [_,_,_,_],_=>rfl,
  tG.tx X G fun _ _ _ _ _ _ us hl=>match us,hl with | [_,_,_,_],_=>rfl,
  Ec.tx X G fun _ _ _ _ _ _ us hl=>match us,hl with | [_],_=>rfl,
  Bz.tx X G fun _ _ _ _ _ _ us hl=>match us,hl with | [_],_=>rfl,
  tI.tx X G fun _ _ _ _ _ _ us hl=>match us,hl with | [_,_],_=>rfl,
  x9.tx X G fun _ _ _ _ _ _ us hl=>match us,hl with | [_],_=>rfl,
  x8.tx X G fun _ _ _ _ _ _ us hl=>match us,hl with | [_,_,_,_],_=>rfl,
  Eh.tx X G fun _ _ _ _ _ _ us hl=>match us,hl with | [_],_=>rfl,
  ya.tx X G fun _ _ _ _ _ _ us hl=>match us,hl with | [_,_],_=>rfl,
  Hz.tx X G fun _ _ _ _ _ _ us hl=>match us,hl with | [_,_],_=>rfl,
  F5.tx X G fun _ _ _ _ _ _ us hl=>match us,hl with | [_],_=>rfl,
  PM.tx X G fun _ _ _ _ _ _ us hl=>match us,hl with | [_],_=>rfl,
  HB.tx X G fun _ _ _ _ _ _ us hl=>match us,hl with | [_,_],_=>rfl,
  BA.tx X G fun _ _ _ _ _ _ us hl=>match us,hl with | [_,_],_=>rfl,
  wx.tx X G fun _ _ _ _ _ _ us hl=>match us,hl with | [_,_,_],_=>rfl,
  Ei.tx X G fun _ _ _ _ _ _ us hl=>match us,hl with | [_,_],_=>rfl,
  PN.tx X G fun _ _ _ _ _ _ us hl=>match us,hl with | [_],_=>rfl,
  Eo.ix Lp Lx fun _ _ _ _ _ _ us hl=>match us,hl with | [_,_,_,_],_=>rfl,
  wu.tx X G fun _ _ _ _ _ _ us hl=>match us,hl with | [_,_],_=>rfl,
  Ef.tx X G fun _ _ _ _ _ _ us hl=>match us,hl with | [_,_,_],_=>rfl,
  BL.ix JQ JX fun _ _ _ _ _ _ us hl=>match us,hl with | [_],_=>rfl,
  tM.tx fun _ _ _ _ _ _ us hl=>match us,hl with | [_],_=>rfl,
  rS.tx fun _ _ _ _ _ _ us hl=>match us,hl with | [_,_],_=>rfl,
  tK.tx fun _ _ _ _ _ _ us hl=>match us,hl with | [_,_,_],_=>rfl,
  rR.tx fun _ _ _ _ _ _ us hl=>match us,hl with | [_,_],_=>rfl,
  u5.tx fun _ _ _ _ _ _ us hl=>match us,hl with | [_,_,_],_=>rfl,
  tN.tx fun _ _ _ _ _ _ us hl=>match us,hl with | [_,_],_=>rfl,
  tL.tx fun _ _ _ _ _ _ us hl=>match us,hl with | [_,_,_],_=>rfl,
  u4.tx fun _ _ _ _ _ _ us hl=>match us,hl with | [_,_],_=>rfl,
  o6.tx fun _ _ _ _ _ _ us hl=>match us,hl with | [_,_],_=>rfl,
  Eg.tx X G fun _ _ _ _ _ _ us hl=>match us,hl with | [_],_=>rfl,
  rQ.tx fun _ _ _ _ _ _ us hl=>match us,hl with | [_],_=>rfl,
  oE.tx fun _ _ _ _ _ _ us hl=>match us,hl with | [_,_],_=>rfl,
  By.tx X G fun _ _ _ _ _ _ us hl=>match us,hl with | [_,_,_],_=>rfl,
  zW.tx X G fun _ _ _ _ _ _ us hl=>match us,hl with | [_,_,_],_=>rfl,
  Hx.tx X G fun _ _ _ _ _ _ us hl=>match us,hl with | [_,_],_=>rfl,
  Hy.tx X G fun _ _ _ _ _ _ us hl=>match us,hl with | [_,_],_=>rfl,
  wy.tx X G fun _ _ _ _ _ _ us hl=>match us,hl with | [_,_],_=>rfl,
  BF.tx X G fun _ _ _ _ _ _ us hl=>match us,hl with | [_,_],_=>rfl,
  yc.tx X G fun _ _ _ _ _ _ us hl=>match us,hl with | [_,_,_],_=>rfl,
  BC.tx X G fun _ _ _ _ _ _ us hl=>match us,hl with | [_,_],_=>rfl,
  yf.tx X G fun _ _ _ _ _ _ us hl=>match us,hl with | [_,_],_=>rfl,
  zX.tx X G fun _ _ _ _ _ _ us hl=>match us,hl with | [_,_,_],_=>rfl,
  BE.tx X G fun _ _ _ _ _ _ us hl=>match us,hl with | [_,_,_],_=>rfl,
  yd.tx X G fun _ _ _ _ _ _ us hl=>match us,hl with | [_,_,_],_=>rfl,
  Ee.tx X G fun _ _ _ _ _ _ us hl=>match us,hl with | [_],_=>rfl,
  tH.tx X G fun _ _ _ _ _ _ us hl=>match us,hl with | [_],_=>rfl,
  J4.tx X G fun _ _ _ _ _ _ us hl=>match us,hl with | [_,_],_=>rfl,
  BG.tx X G fun _ _ _ _ _ _ us hl=>match us,hl with | [_,_,_],_=>rfl,
  LM.tx X G fun _ _ _ _ _ _ us hl=>match us,hl with | [_,_],_=>rfl,
  yb.tx X G fun _ _ _ _ _ _ us hl=>match us,hl with | [_,_],_=>rfl,
  BI.tx X G fun _ _ _ _ _ _ us hl=>match us,hl with | [_,_,_],_=>rfl,
  F7.tx X G fun _ _ _ _ _ _ us hl=>match us,hl with | [_,_],_=>rfl,
  En.tx X G fun _ _ _ _ _ _ us hl=>match us,hl with | [_,_,_,_,_],_=>rfl,
  zV.tx X G fun _ _ _ _ _ _ us hl=>match us,hl with | [_],_=>rfl,
  BH.tx X G fun _ _ _ _ _ _ us hl=>match us,hl with | [_],_=>rfl,
  Em.tx X G fun _ _ _ _ _ _ us hl=>match us,hl with | [_,_],_=>rfl,
  BJ.tx X G fun _ _ _ _ _ _ us hl=>match us,hl with | [_,_,_,_,_],_=>rfl,
  zY.tx X G fun _ _ _ _ _ _ us hl=>match us,hl with | [_,_],_=>rfl,
  ye.tx X G fun _ _ _ _ _ _ us hl=>match us,hl with | [_,_,_,_],_=>rfl,
  tJ.tx X G fun _ _ _ _ _ _ us hl=>match us,hl with | [_,_,_],_=>rfl,
  u0.tx X G fun _ _ _ _ _ _ us hl=>match us,hl with | [_,_,_],_=>rfl,
  BK.tx X G fun _ _ _ _ _ _ us hl=>match us,hl with | [_,_,_,_],_=>rfl,
  J5.tx X G fun _ _ _ _ _ _ us hl=>match us,hl with | [_],_=>rfl⟩
end Sw
set_option maxRecDepth 100000
set_option maxHeartbeats 400000
namespace Sw
open PySem PySem.Spec PyProof.Rows L2 L3 L4 Mt
theorem G0 {K:Frag} {vs:List V} {H:Hp} {Q:VK} {E:XK} (h:gx K vs H Q E):yD K {nx:=fun _ H'=>Q .non H',rt:=Q} (start EN vs) H:=by
 obtain ⟨a,b,es,ts,yes,rfl,h1,h2,h3,h4,h5,k⟩:=h
 exact MJ h1 h2 h3 h4 h5 k
theorem txs {K:Frag} {mg:Str->Option Value} {C D:Addr} (T:Txt K mg C D):TxS K ⟨C,D⟩:=⟨T.fh,T.mz,T.jX,T.kZ,T.gw,T.gv,⟨T.LY,T.jD,T.iY,T.nJ⟩⟩
section
variable {P:Program} {w:World} {K:Frag} {mg:Str->Option Value} {ah aX:Addr} {base:Heap} (T:Txt K mg ah aX)
include T
theorem qQ:FnAt P w K mg base 1 "is_range" ["form"] bJ :=
 T.GN.at (fun f fd F=>F.ok Fm (fun vs H Q E h=>by obtain ⟨_,rfl,_⟩:=h;rfl) fun cdv A outer s H vs Q E hr h=>⟨_,Gp T.bl T.mc _ _ _ _ _ _ _ hr,(Fu h :)⟩)
theorem m7:FnAt P w K mg base 1 "is_named_group" ["form"] bA :=
 T.vJ.at (fun f fd F=>F.ok uA (fun vs H Q E h=>by obtain ⟨_,rfl,_⟩:=h;rfl) fun cdv A outer s H vs Q E hr h=>⟨_,vh T.bl T.mc _ _ _ _ _ _ _ hr,(uE h :)⟩)
theorem vm:FnAt P w K mg base 1 "makes_yes" ["form"] b9 :=
 T.Fg.at (fun f fd F=>F.ok DN (fun vs H Q E h=>by obtain ⟨_,rfl,_⟩:=h;rfl) fun cdv A outer s H vs Q E hr h=>⟨_,EE T.bl T.mc _ _ _ _ _ _ _ hr,(DU h :)⟩)
theorem Je:FnAt P w K mg base 1 "mark" ["edges","touched","yes"] (gx K) :=
 T.ON.at (fun f fd F=>F.ok jw (fun vs H Q E h=>by obtain ⟨_,_,_,_,_,rfl,_⟩:=h;rfl) fun cdv A outer s H vs Q E hr h=>⟨_,NJ T.bl T.mc _ _ _ _ _ _ _ hr,(G0 h :)⟩)
theorem EJ:FnAt P w K mg base 1 "list_runs" ["edges"] (fi K) :=
 T.Fh.at (fun f fd F=>F.ok oS (fun vs H Q E h=>by obtain ⟨_,_,rfl,_⟩:=h;rfl) fun cdv A outer s H vs Q E hr h=>⟨_,EF T.bl T.mc _ _ _ _ _ _ _ hr,(DV h :)⟩)
theorem tV:FnAt P w K mg base 1 "count_addresses" ["edges"] (cz K) :=
 T.ur.at (fun f fd F=>F.ok iW (fun vs H Q E h=>by obtain ⟨_,_,rfl,_⟩:=h;rfl) fun cdv A outer s H vs Q E hr h=>⟨_,tR T.bl T.mc _ _ _ _ _ _ _ hr,(sY h :)⟩)
theorem B6:FnAt P w K mg base 1 "count_free" ["first","hi"] eL :=
 T.DF.at (fun f fd F=>F.ok sD (fun vs H Q E h=>by obtain ⟨_,_,rfl,_⟩:=h;rfl) fun cdv A outer s H vs Q E hr h=>⟨_,BW T.bl T.mc _ _ _ _ _ _ _ hr,(Bs h :)⟩)
theorem mF:FnAt P w K mg base 2 "cover_range" ["lo","hi"] bu :=
 T.A5.at (fun f fd F=>F.ok gL (fun vs H Q E h=>by obtain ⟨_,_,_,rfl,_⟩:=h;rfl) fun cdv A outer s H vs Q E hr h=>⟨_,Aq T.bl T.mc (B6 T) _ _ _ _ _ _ _ hr,(zm h :)⟩)
theorem sG:FnAt P w K mg base 3 "cover_runs" ["edges"] (bW K) :=
 T.DE.at (fun f fd F=>F.ok nD (fun vs H Q E h=>by obtain ⟨_,_,rfl,_⟩:=h;rfl) fun cdv A outer s H vs Q E hr h=>⟨_,BV T.bl T.mc (mF T) _ _ _ _ _ _ _ hr,(Br h :)⟩)
theorem qO:FnAt P w K mg base 1 "tell_blocks" ["blocks"] bS :=
 T.AX.at (fun f fd F=>F.ok jv (fun vs H Q E h=>by obtain ⟨_,_,rfl,_⟩:=h;rfl) fun cdv A outer s H vs Q E hr h=>⟨_,Am T.bl T.mc _ _ _ _ _ _ _ hr,(zi h :)⟩)
theorem sF:FnAt P w K mg base 1 "is_address" ["number"] bV :=
 T.DD.at (fun f fd F=>F.ok Bh (fun vs H Q E h=>by obtain ⟨_,rfl,_⟩:=h;rfl) fun cdv A outer s H vs Q E hr h=>⟨_,BU T.bl T.mc _ _ _ _ _ _ _ hr,(Bq h :)⟩)
theorem vn:FnAt P w K mg base 2 "is_packet" ["source","target","kind","port"] cx :=
 T.Fj.at (fun f fd F=>F.ok DO (fun vs H Q E h=>by obtain ⟨_,_,_,_,rfl,_⟩:=h;rfl) fun cdv A outer s H vs Q E hr h=>⟨_,EH T.bl T.mc (sF T) _ _ _ _ _ _ _ hr,(DX h :)⟩)
theorem lC:FnAt P w K mg base 1 "put_side_by_side" ["source","target","kind","port"] bg :=
 T.sL.at (fun f fd F=>F.ok lu (fun vs H Q E h=>by obtain ⟨_,_,_,_,rfl,_⟩:=h;rfl) fun cdv A outer s H vs Q E hr h=>⟨_,rV T.bl T.mc _ _ _ _ _ _ _ hr,(rG h :)⟩)
theorem B0:FnAt P w K mg base 1 "take_apart" ["number"] dB :=
 T.Dx.at (fun f fd F=>F.ok j8 (fun vs H Q E h=>by obtain ⟨_,_,_,_,rfl,_⟩:=h;rfl) fun cdv A outer s H vs Q E hr h=>⟨_,BN T.bl T.mc _ _ _ _ _ _ _ hr,(Bj h :)⟩)
theorem qP:FnAt P w K mg base 2 "list_fields" ["row"] (bT K) :=
 T.AZ.at (fun f fd F=>F.ok za (fun vs H Q E h=>by obtain ⟨_,_,rfl,_⟩:=h;rfl) fun cdv A outer s H vs Q E hr h=>⟨_,Ao T.bl T.mc (B0 T) _ _ _ _ _ _ _ hr,(zk h :)⟩)
theorem sh:FnAt P w K mg base 1 "fields_of_blocks" ["blocks","bits"] bP :=
 T.sN.at (fun f fd F=>F.ok fC (fun vs H Q E h=>by obtain ⟨_,_,_,rfl,_⟩:=h;rfl) fun cdv A outer s H vs Q E hr h=>⟨_,rX T.bl T.mc _ _ _ _ _ _ _ hr,(rJ h :)⟩)
theorem wV:FnAt P w K mg base 1 "field_of_kind" ["kind"] cU :=
 T.xJ.at (fun f fd F=>F.ok vP (fun vs H Q E h=>by obtain ⟨_,rfl,_⟩:=h;rfl) fun cdv A outer s H vs Q E hr h=>⟨_,wK T.bl T.mc _ _ _ _ _ _ _ hr,(vW h :)⟩)
theorem wU:FnAt P w K mg base 2 "make_raw_rows" ["rule","sources","targets","ports"] (cT K) :=
 T.xI.at (fun f fd F=>F.ok cj (fun vs H Q E h=>by obtain ⟨_,_,_,_,_,_,_,rfl,_⟩:=h;rfl) fun cdv A outer s H vs Q E hr h=>⟨_,wJ T.bl T.mc (wV T) (sh T) (lC T) _ _ _ _ _ _ _ hr,(vV h :)⟩)
theorem B4:FnAt P w K mg base 1 "is_one_bit" ["number"] eJ :=
 T.DB.at (fun f fd F=>F.ok Bg (fun vs H Q E h=>by obtain ⟨_,rfl,_⟩:=h;rfl) fun cdv A outer s H vs Q E hr h=>⟨_,BR T.bl T.mc _ _ _ _ _ _ _ hr,(Bo h :)⟩)
theorem wW:FnAt P w K mg base 2 "can_be_joined" ["first","second"] (cV K) :=
 T.xK.at (fun f fd F=>F.ok vQ (fun vs H Q E h=>by obtain ⟨_,_,_,_,rfl,_⟩:=h;rfl) fun cdv A outer s H vs Q E hr h=>⟨_,wL T.bl T.mc (B4 T) _ _ _ _ _ _ _ hr,(vX h :)⟩)
theorem Gv:FnAt P w K mg base 1 "join_two" ["first","second"] (fP K) :=
 T.GL.at (fun f fd F=>F.ok xt (fun vs H Q E h=>by obtain ⟨_,_,_,_,_,rfl,_⟩:=h;rfl) fun cdv A outer s H vs Q E hr h=>⟨_,Gn T.bl T.mc _ _ _ _ _ _ _ hr,(Ft h :)⟩)
theorem EK:FnAt P w K mg base 3 "join_rows" ["rows"] fj :=
 T.Fi.at (fun f fd F=>F.ok jx (fun vs H Q E h=>by obtain ⟨_,_,_,rfl,_⟩:=h;rfl) fun cdv A outer s H vs Q E hr h=>⟨_,EG T.bl T.mc (wW T) (Gv T) _ _ _ _ _ _ _ hr,(DW h :)⟩)
theorem NN:FnAt P w K mg base 1 "trim" ["rows"] mO :=
 T.OL.at (fun f fd F=>F.ok DM (fun vs H Q E h=>by obtain ⟨_,_,_,rfl,_⟩:=h;rfl) fun cdv A outer s H vs Q E hr h=>⟨_,NH T.bl T.mc _ _ _ _ _ _ _ hr,(MH h :)⟩)
theorem Gw:FnAt P w K mg base 1 "find_row" ["rows","packet"] fQ :=
 T.GO.at (fun f fd F=>F.ok qe (fun vs H Q E h=>by obtain ⟨_,_,_,rfl,_⟩:=h;rfl) fun cdv A outer s H vs Q E hr h=>⟨_,Gq T.bl T.mc _ _ _ _ _ _ _ hr,(Fv h :)⟩)
theorem AD:FnAt P w K mg base 1 "file_fields" ["fields","filed"] dH :=
 T.A0.at (fun f fd F=>F.ok fH (fun vs H Q E h=>by obtain ⟨_,_,_,_,_,_,_,rfl,_⟩:=h;rfl) fun cdv A outer s H vs Q E hr h=>⟨_,Ap T.bl T.mc _ _ _ _ _ _ _ hr,(zl h :)⟩)
theorem vp:FnAt P w K mg base 1 "covering_files" ["files","value","mask"] cJ :=
 T.vL.at (fun f fd F=>F.ok fk (fun vs H Q E h=>by obtain ⟨_,_,_,_,_,_,_,_,_,rfl,_⟩:=h;rfl) fun cdv A outer s H vs Q E hr h=>⟨_,vj T.bl T.mc _ _ _ _ _ _ _ hr,(uG h :)⟩)
theorem B5:FnAt P w K mg base 2 "is_covered" ["fields","filed"] eK :=
 T.DC.at (fun f fd F=>F.ok iA (fun vs H Q E h=>by obtain ⟨_,_,_,_,_,_,_,rfl,_⟩:=h;rfl) fun cdv A outer s H vs Q E hr h=>⟨_,BS T.bl T.mc (vp T) _ _ _ _ _ _ _ hr,(Bp h :)⟩)
theorem NO:FnAt P w K mg base 3 "thin" ["rows"] lD :=
 T.OM.at (fun f fd F=>F.ok uz (fun vs H Q E h=>by obtain ⟨_,_,_,rfl,_⟩:=h;rfl) fun cdv A outer s H vs Q E hr h=>⟨_,NI T.bl T.mc (qP T) (B5 T) (AD T) _ _ _ _ _ _ _ hr,(MI h :)⟩)
theorem B9:Ic P w K mg base 1 "Table" aX ["self","too_many","raw_count","rows"] (dC ⟨ah,aX⟩) :=
 T.DI.at T.LX (fun f fd F=>F.ok Bi (fun vs H Q E h=>by obtain ⟨_,_,_,_,_,rfl,_⟩:=h;rfl) fun cdv A outer s H vs Q E hr h=>⟨_,BZ T.bl T.mc _ _ _ _ _ _ _ hr,(Bv (txs T) h :)⟩)
theorem vo:FnAt P w K mg base 2 "edges_of_parts" ["parts","known_edges"] cI :=
 T.vK.at (fun f fd F=>F.ok c8 (fun vs H Q E h=>by obtain ⟨_,_,_,_,_,_,rfl,_⟩:=h;rfl) fun cdv A outer s H vs Q E hr h=>⟨_,vi T.bl T.mc (qQ T) (vm T) (Je T) _ _ _ _ _ _ _ hr,(uF h :)⟩)
theorem B2:FnAt P w K mg base 2 "parts_hold" ["parts","inside","address"] eF :=
 T.Dz.at (fun f fd F=>F.ok fv (fun vs H Q E h=>by obtain ⟨_,_,_,_,_,_,rfl,_⟩:=h;rfl) fun cdv A outer s H vs Q E hr h=>⟨_,BP T.bl T.mc (qQ T) (vm T) _ _ _ _ _ _ _ hr,(Bm h :)⟩)
theorem AM:Ic P w K mg base 1 "Switch" ah ["self"] (dN ⟨ah,aX⟩) :=
 T.Be.at T.Kg (fun f fd F=>F.ok zg (fun vs H Q E h=>by obtain ⟨_,_,rfl,_⟩:=h;rfl) fun cdv A outer s H vs Q E hr h=>⟨_,AA T.bl T.mc _ _ _ _ _ _ _ hr,(zy (txs T) h :)⟩)
theorem sr:MethAt P w K mg base 1 ah "has_begun" ["self"] (cu ⟨ah,aX⟩) :=
 T.sR.at T.fh (fun f fd F=>F.ok rE (fun vs H Q E h=>by obtain ⟨_,_,rfl,_⟩:=h;rfl) fun cdv A outer s H vs Q E hr h=>⟨_,r8 T.bl T.mc _ _ _ _ _ _ _ hr,(rN (txs T) h :)⟩)
theorem qS:MethAt P w K mg base 1 ah "begin_anew" ["self","most"] (b8 ⟨ah,aX⟩) :=
 T.rB.at T.fh (fun f fd F=>F.ok ql (fun vs H Q E h=>by obtain ⟨_,_,_,rfl,_⟩:=h;rfl) fun cdv A outer s H vs Q E hr h=>⟨_,qN T.bl T.mc _ _ _ _ _ _ _ hr,(qt (txs T) h :)⟩)
theorem sj:MethAt P w K mg base 1 ah "set_group" ["self","number","parts"] (cp ⟨ah,aX⟩) :=
 T.sP.at T.fh (fun f fd F=>F.ok rD (fun vs H Q E h=>by obtain ⟨_,_,_,_,_,_,rfl,_⟩:=h;rfl) fun cdv A outer s H vs Q E hr h=>⟨_,rZ T.bl T.mc _ _ _ _ _ _ _ hr,(rL (txs T) h :)⟩)
theorem qR:MethAt P w K mg base 1 ah "drop_group" ["self","number"] (b7 ⟨ah,aX⟩) :=
 T.rA.at T.fh (fun f fd F=>F.ok qj (fun vs H Q E h=>by obtain ⟨_,_,_,rfl,_⟩:=h;rfl) fun cdv A outer s H vs Q E hr h=>⟨_,qM T.bl T.mc _ _ _ _ _ _ _ hr,(qr (txs T) h :)⟩)
theorem tX:MethAt P w K mg base 1 ah "add_rule" ["self","place","rule"] (cB ⟨ah,aX⟩) :=
 T.uw.at T.fh (fun f fd F=>F.ok sW (fun vs H Q E h=>by obtain ⟨_,_,_,_,_,_,rfl,_⟩:=h;rfl) fun cdv A outer s H vs Q E hr h=>⟨_,tU T.bl T.mc _ _ _ _ _ _ _ hr,(tp (txs T) h :)⟩)
theorem su:MethAt P w K mg base 1 ah "drop_rule" ["self","place"] (cv ⟨ah,aX⟩) :=
 T.sS.at T.fh (fun f fd F=>F.ok rF (fun vs H Q E h=>by obtain ⟨_,_,_,rfl,_⟩:=h;rfl) fun cdv A outer s H vs Q E hr h=>⟨_,r9 T.bl T.mc _ _ _ _ _ _ _ hr,(rO (txs T) h :)⟩)
theorem so:MethAt P w K mg base 1 ah "move_rule" ["self","place","target"] (cq ⟨ah,aX⟩) :=
 T.sQ.at T.fh (fun f fd F=>F.ok ly (fun vs H Q E h=>by obtain ⟨_,_,_,_,_,rfl,_⟩:=h;rfl) fun cdv A outer s H vs Q E hr h=>⟨_,r0 T.bl T.mc _ _ _ _ _ _ _ hr,(rM (txs T) h :)⟩)
theorem dz:MethAt P w K mg base 3 ah "edges_of" ["self","number"] (aA ⟨ah,aX⟩) :=
 T.uv.at T.fh (fun f fd F=>F.ok mm (fun vs H Q E h=>by obtain ⟨_,_,_,rfl,_⟩:=h;rfl) fun cdv A outer s H vs Q E hr h=>⟨_,tT T.bl T.mc (vo T) _ _ _ _ _ _ _ hr,(tj (txs T) h :)⟩)
theorem oI:MethAt P w K mg base 4 ah "edges_of_side" ["self","side"] (bE ⟨ah,aX⟩) :=
 T.oP.at T.fh (fun f fd F=>F.ok ox (fun vs H Q E h=>by obtain ⟨_,_,_,rfl,_⟩:=h;rfl) fun cdv A outer s H vs Q E hr h=>⟨_,oH T.bl T.mc (dz T) _ _ _ _ _ _ _ hr,(oz (txs T) h :)⟩)
theorem B3:FnAt P w K mg base 5 "make_table" ["switch"] (eI ⟨ah,aX⟩) :=
 T.DA.at (fun f fd F=>F.ok eO (fun vs H Q E h=>by obtain ⟨_,_,rfl,_⟩:=h;rfl) fun cdv A outer s H vs Q E hr h=>⟨_,BQ T.bl T.mc (oI T) (sG T) (mF T) (B9 T) (wU T) (NO T) (EK T) (NN T) _ _ _ _ _ _ _ hr,(Bn (txs T) h :)⟩)
theorem gR:MethAt P w K mg base 6 ah "find_table" ["self"] (aS ⟨ah,aX⟩) :=
 T.rz.at T.fh (fun f fd F=>F.ok qi (fun vs H Q E h=>by obtain ⟨_,_,rfl,_⟩:=h;rfl) fun cdv A outer s H vs Q E hr h=>⟨_,qL T.bl T.mc (B3 T) _ _ _ _ _ _ _ hr,(qp (txs T) h :)⟩)
theorem iE:MethAt P w K mg base 3 ah "groups_holding" ["self","address"] (aU ⟨ah,aX⟩) :=
 T.oo.at T.fh (fun f fd F=>F.ok fw (fun vs H Q E h=>by obtain ⟨_,_,_,rfl,_⟩:=h;rfl) fun cdv A outer s H vs Q E hr h=>⟨_,nN T.bl T.mc (B2 T) _ _ _ _ _ _ _ hr,(nE (txs T) h :)⟩)
theorem AB:FnAt P w K mg base 2 "refuse_part" ["switch","number","part"] (dG ⟨ah,aX⟩) :=
 T.AY.at (fun f fd F=>F.ok y0 (fun vs H Q E h=>by obtain ⟨_,_,_,_,_,rfl,_⟩:=h;rfl) fun cdv A outer s H vs Q E hr h=>⟨_,An T.bl T.mc (qQ T) (m7 T) _ _ _ _ _ _ _ hr,(zj (txs T) h :)⟩)
theorem yo:FnAt P w K mg base 3 "answer_group" ["switch","number","listed"] (dj ⟨ah,aX⟩) :=
 T.yU.at (fun f fd F=>F.ok gg (fun vs H Q E h=>by obtain ⟨_,_,_,_,_,rfl,_⟩:=h;rfl) fun cdv A outer s H vs Q E hr h=>⟨_,yk T.bl T.mc (AB T) (sj T) _ _ _ _ _ _ _ hr,(xU (txs T) h :)⟩)
theorem Gs:FnAt P w K mg base 1 "rule_has" ["switch","number"] (fN ⟨ah,aX⟩) :=
 T.GJ.at (fun f fd F=>F.ok qd (fun vs H Q E h=>by obtain ⟨_,_,_,rfl,_⟩:=h;rfl) fun cdv A outer s H vs Q E hr h=>⟨_,Gk T.bl T.mc _ _ _ _ _ _ _ hr,(Fq (txs T) h :)⟩)
theorem Gu:FnAt P w K mg base 2 "part_has" ["switch","number"] (fO ⟨ah,aX⟩) :=
 T.GK.at (fun f fd F=>F.ok mP (fun vs H Q E h=>by obtain ⟨_,_,_,rfl,_⟩:=h;rfl) fun cdv A outer s H vs Q E hr h=>⟨_,Gm T.bl T.mc (m7 T) _ _ _ _ _ _ _ hr,(Fs (txs T) h :)⟩)
theorem vq:FnAt P w K mg base 3 "answer_nogroup" ["switch","number"] (eW ⟨ah,aX⟩ .nogroup) :=
 T.vM.at (fun f fd F=>F.ok uB (fun vs H Q E h=>by obtain ⟨_,_,_,rfl,_⟩:=h;rfl) fun cdv A outer s H vs Q E hr h=>⟨_,vk T.bl T.mc (Gs T) (Gu T) (qR T) _ _ _ _ _ _ _ hr,(uH (txs T) h :)⟩)
theorem AG:FnAt P w K mg base 4 "answer_runs" ["switch","number"] (eW ⟨ah,aX⟩ .runs) :=
 T.A8.at (fun f fd F=>F.ok qf (fun vs H Q E h=>by obtain ⟨_,_,_,rfl,_⟩:=h;rfl) fun cdv A outer s H vs Q E hr h=>⟨_,Au T.bl T.mc (dz T) (EJ T) _ _ _ _ _ _ _ hr,(zq (txs T) h :)⟩)
theorem wY:FnAt P w K mg base 4 "answer_member" ["switch","number","address"] (gf ⟨ah,aX⟩ .member) :=
 T.xN.at (fun f fd F=>F.ok vS (fun vs H Q E h=>by obtain ⟨_,_,_,_,rfl,_⟩:=h;rfl) fun cdv A outer s H vs Q E hr h=>⟨_,wN T.bl T.mc (sF T) (iE T) _ _ _ _ _ _ _ hr,(vZ (txs T) h :)⟩)
theorem AE:FnAt P w K mg base 4 "answer_size" ["switch","number"] (eW ⟨ah,aX⟩ .size) :=
 T.A6.at (fun f fd F=>F.ok zb (fun vs H Q E h=>by obtain ⟨_,_,_,rfl,_⟩:=h;rfl) fun cdv A outer s H vs Q E hr h=>⟨_,Ar T.bl T.mc (dz T) (tV T) _ _ _ _ _ _ _ hr,(zo (txs T) h :)⟩)
theorem xc:FnAt P w K mg base 4 "answer_blocks" ["switch","number"] (eW ⟨ah,aX⟩ .blocks) :=
 T.xQ.at (fun f fd F=>F.ok vU (fun vs H Q E h=>by obtain ⟨_,_,_,rfl,_⟩:=h;rfl) fun cdv A outer s H vs Q E hr h=>⟨_,wR T.bl T.mc (dz T) (sG T) (qO T) _ _ _ _ _ _ _ hr,(wc (txs T) h :)⟩)
theorem yp:FnAt P w K mg base 3 "answer_cover" ["bits","lo","hi"] dn :=
 T.yV.at (fun f fd F=>F.ok pQ (fun vs H Q E h=>by obtain ⟨_,_,_,_,rfl,_⟩:=h;rfl) fun cdv A outer s H vs Q E hr h=>⟨_,yl T.bl T.mc (mF T) (qO T) _ _ _ _ _ _ _ hr,(xV h :)⟩)
theorem AF:FnAt P w K mg base 4 "answer_same" ["switch","number","other"] (gf ⟨ah,aX⟩ .same) :=
 T.A7.at (fun f fd F=>F.ok zc (fun vs H Q E h=>by obtain ⟨_,_,_,_,rfl,_⟩:=h;rfl) fun cdv A outer s H vs Q E hr h=>⟨_,As T.bl T.mc (dz T) _ _ _ _ _ _ _ hr,(zp (txs T) h :)⟩)
theorem wZ:FnAt P w K mg base 4 "answer_inside" ["switch","number","other"] (gf ⟨ah,aX⟩ .inside) :=
 T.xO.at (fun f fd F=>F.ok ow (fun vs H Q E h=>by obtain ⟨_,_,_,_,rfl,_⟩:=h;rfl) fun cdv A outer s H vs Q E hr h=>⟨_,wO T.bl T.mc (dz T) (Je T) _ _ _ _ _ _ _ hr,(wa (txs T) h :)⟩)
theorem B1:FnAt P w K mg base 1 "read_calls" ["calls"] (eE K) :=
 T.Dy.at (fun f fd F=>F.ok cN (fun vs H Q E h=>by obtain ⟨_,_,_,rfl,_⟩:=h;rfl) fun cdv A outer s H vs Q E hr h=>⟨_,BO T.bl T.mc _ _ _ _ _ _ _ hr,(Bk h :)⟩)
theorem sg:FnAt P w K mg base 1 "has_right_values" ["rule"] ck :=
 T.sM.at (fun f fd F=>F.ok lx (fun vs H Q E h=>by obtain ⟨_,_,_,_,_,_,_,rfl,_⟩:=h;rfl) fun cdv A outer s H vs Q E hr h=>⟨_,rW T.bl T.mc _ _ _ _ _ _ _ hr,(rH h :)⟩)
theorem HX:FnAt P w K mg base 1 "is_side" ["switch","number"] (fS ⟨ah,aX⟩) :=
 T.Jt.at (fun f fd F=>F.ok GW (fun vs H Q E h=>by obtain ⟨_,_,_,rfl,_⟩:=h;rfl) fun cdv A outer s H vs Q E hr h=>⟨_,HU T.bl T.mc _ _ _ _ _ _ _ hr,(G1 (txs T) h :)⟩)
theorem AH:FnAt P w K mg base 2 "answer_rule" ["switch","place","rule"] (dI ⟨ah,aX⟩) :=
 T.A9.at (fun f fd F=>F.ok zd (fun vs H Q E h=>by obtain ⟨_,_,_,_,_,_,_,_,_,_,_,rfl,_⟩:=h;rfl) fun cdv A outer s H vs Q E hr h=>⟨_,Av T.bl T.mc (sg T) (HX T) (tX T) _ _ _ _ _ _ _ hr,(zr (txs T) h :)⟩)
theorem De:FnAt P w K mg base 1 "stands" ["switch","place"] (dy ⟨ah,aX⟩) :=
 T.Ky.at (fun f fd F=>F.ok JB (fun vs H Q E h=>by obtain ⟨_,_,_,rfl,_⟩:=h;rfl) fun cdv A outer s H vs Q E hr h=>⟨_,Kl T.bl T.mc _ _ _ _ _ _ _ hr,(JF (txs T) h :)⟩)
theorem wX:FnAt P w K mg base 2 "answer_norule" ["switch","place"] (eW ⟨ah,aX⟩ .norule) :=
 T.xM.at (fun f fd F=>F.ok vR (fun vs H Q E h=>by obtain ⟨_,_,_,rfl,_⟩:=h;rfl) fun cdv A outer s H vs Q E hr h=>⟨_,wM T.bl T.mc (De T) (su T) _ _ _ _ _ _ _ hr,(vY (txs T) h :)⟩)
theorem AJ:FnAt P w K mg base 2 "answer_move" ["switch","place","target"] (gf ⟨ah,aX⟩ .move) :=
 T.Bb.at (fun f fd F=>F.ok ze (fun vs H Q E h=>by obtain ⟨_,_,_,_,rfl,_⟩:=h;rfl) fun cdv A outer s H vs Q E hr h=>⟨_,Ax T.bl T.mc (De T) (so T) _ _ _ _ _ _ _ hr,(zu (txs T) h :)⟩)
theorem EL:FnAt P w K mg base 1 "fits_side" ["side","holding"] eh :=
 T.Fl.at (fun f fd F=>F.ok DP (fun vs H Q E h=>by obtain ⟨_,_,_,_,rfl,_⟩:=h;rfl) fun cdv A outer s H vs Q E hr h=>⟨_,EI T.bl T.mc _ _ _ _ _ _ _ hr,(DY h :)⟩)
theorem B8:FnAt P w K mg base 4 "answer_ask" ["switch","source","target","kind","port"] (eN ⟨ah,aX⟩) :=
 T.DH.at (fun f fd F=>F.ok gp (fun vs H Q E h=>by obtain ⟨_,_,_,_,_,_,rfl,_⟩:=h;rfl) fun cdv A outer s H vs Q E hr h=>⟨_,BY T.bl T.mc (vn T) (iE T) (EL T) _ _ _ _ _ _ _ hr,(Bu (txs T) h :)⟩)
theorem yn:FnAt P w K mg base 1 "answer_rules" ["switch"] (ou ⟨ah,aX⟩ .rules) :=
 T.yT.at (fun f fd F=>F.ok kY (fun vs H Q E h=>by obtain ⟨_,_,rfl,_⟩:=h;rfl) fun cdv A outer s H vs Q E hr h=>⟨_,yj T.bl T.mc _ _ _ _ _ _ _ hr,(xT (txs T) h :)⟩)
theorem AI:FnAt P w K mg base 7 "answer_rows" ["switch"] (ou ⟨ah,aX⟩ .rows) :=
 T.Ba.at (fun f fd F=>F.ok qh (fun vs H Q E h=>by obtain ⟨_,_,rfl,_⟩:=h;rfl) fun cdv A outer s H vs Q E hr h=>⟨_,Aw T.bl T.mc (gR T) _ _ _ _ _ _ _ hr,(zt (txs T) h :)⟩)
theorem B7:FnAt P w K mg base 7 "answer_row" ["switch","place"] (eM ⟨ah,aX⟩) :=
 T.DG.at (fun f fd F=>F.ok iB (fun vs H Q E h=>by obtain ⟨_,_,_,rfl,_⟩:=h;rfl) fun cdv A outer s H vs Q E hr h=>⟨_,BX T.bl T.mc (gR T) (qP T) _ _ _ _ _ _ _ hr,(Bt (txs T) h :)⟩)
theorem AK:FnAt P w K mg base 7 "answer_look" ["switch","source","target","kind","port"] (dJ ⟨ah,aX⟩) :=
 T.Bc.at (fun f fd F=>F.ok ml (fun vs H Q E h=>by obtain ⟨_,_,_,_,_,_,rfl,_⟩:=h;rfl) fun cdv A outer s H vs Q E hr h=>⟨_,Ay T.bl T.mc (vn T) (gR T) (lC T) (Gw T) _ _ _ _ _ _ _ hr,(zw (txs T) h :)⟩)
theorem yq:FnAt P w K mg base 2 "answer_begin" ["switch","most"] (dq ⟨ah,aX⟩) :=
 T.yW.at (fun f fd F=>F.ok xS (fun vs H Q E h=>by obtain ⟨_,_,_,rfl,_⟩:=h;rfl) fun cdv A outer s H vs Q E hr h=>⟨_,ym T.bl T.mc (qS T) _ _ _ _ _ _ _ hr,(xW (txs T) h :)⟩)
theorem xb:FnAt P w K mg base 4 "answer_change" ["switch","number","numbers","parts"] (cW ⟨ah,aX⟩) :=
 T.xP.at (fun f fd F=>F.ok vT (fun vs H Q E h=>by obtain ⟨_,_,_,_,_,_,rfl,_⟩:=h;rfl) fun cdv A outer s H vs Q E hr h=>⟨_,wQ T.bl T.mc (yo T) (vq T) (AH T) (wX T) (AJ T) _ _ _ _ _ _ _ hr,(wb h :)⟩)
theorem si:FnAt P w K mg base 5 "answer_of_groups" ["switch","number","numbers"] (cn ⟨ah,aX⟩) :=
 T.sO.at (fun f fd F=>F.ok rC (fun vs H Q E h=>by obtain ⟨_,_,_,_,_,rfl,_⟩:=h;rfl) fun cdv A outer s H vs Q E hr h=>⟨_,rY T.bl T.mc (AG T) (wY T) (AE T) (xc T) (yp T) (AF T) (wZ T) _ _ _ _ _ _ _ hr,(rK h :)⟩)
theorem tW:FnAt P w K mg base 8 "answer_of_rules" ["switch","number","numbers"] (cA ⟨ah,aX⟩) :=
 T.uu.at (fun f fd F=>F.ok sV (fun vs H Q E h=>by obtain ⟨_,_,_,_,_,rfl,_⟩:=h;rfl) fun cdv A outer s H vs Q E hr h=>⟨_,tS T.bl T.mc (B8 T) (AI T) (B7 T) (AK T) (yn T) _ _ _ _ _ _ _ hr,(sZ h :)⟩)
theorem AL:FnAt P w K mg base 9 "answer_call" ["switch","number","numbers","parts"] (dM ⟨ah,aX⟩) :=
 T.Bd.at (fun f fd F=>F.ok zf (fun vs H Q E h=>by obtain ⟨_,_,_,_,_,_,rfl,_⟩:=h;rfl) fun cdv A outer s H vs Q E hr h=>⟨_,Az T.bl T.mc (yq T) (sr T) (xb T) (si T) (tW T) _ _ _ _ _ _ _ hr,(zx (txs T) h :)⟩)
theorem Hf:∀ (f:Addr) (fd:FuncData),Fun K "answers" "answers" oy f fd->pM P w K mg base CX0 10 f fd ["calls"] (sU K) :=
 fun f fd F=>F.ok iX (fun vs H Q E h=>by obtain ⟨_,_,rfl,_⟩:=h;rfl) fun cdv A outer s H vs Q E hr h=>⟨_,HV T.bl T.mc (AM T) (B1 T) (AL T) _ _ _ _ _ _ _ hr,(G2 (txs T) h :)⟩
end
end Sw
open PySem PySem.W PyProof.Rows
set_option maxRecDepth 100000 in
set_option maxHeartbeats 0 in
theorem PySem.Challenge.cw_switchrules_s01_answers_holds : PySem.Challenge.rw_switchrules_s01_answers.Holds := by
 w_on
 refine holds_os (r:=PySem.Challenge.rw_switchrules_s01_answers) (q:=Sw.qv) (loose:=Sw.lo) (Xt:=Sw.Xv) (XP:=XL Sw.qv []) (Yf:=Sw.hk.obs) (Ya:=Sw.hk.val) (YP:=Sw.hk.says) (N:=6578) Sw.left Sw.hk.of Sw.hk.keeps (fun s e=>xl_of s (pW.mp e).1) XL.keeps (by rfl) (by rfl) (by rfl) (fun s e=>recFacts_of (pW.mp e).2) os_shapes Sw.Q0 Sw.opens ⟨rfl,rfl,rfl,rfl,rfl,by decide +kernel⟩ ⟨[.list [.int 0,.int 5]],by decide +kernel,by decide +kernel⟩ ?hc
 refine L2.GD (r:=PySem.Challenge.rw_switchrules_s01_answers) (k:=10) (CX:=L2.CX0) (ps:=["calls"]) (sp:=Sw.sU) (K:=Sw.Kf) Sw.Q0 rfl rfl ⟨rfl,by decide,by decide⟩ (fun w h Y=>PySem.W.kIn_of Y) ?F ?S (fun _ _ _ _ z=>z)
 k_fillS
 case F =>
  intro w mg fa h Y KX G hmg
  have T:∃ C D,Sw.Txt (L2.KOf KX) mg C D:=by
   dsimp only [L2.KOf]
   refine' Exists.intro _ (Exists.intro _ (Sw.OJ KX G ..))
   all_goals first
    |k_is
    | (refine' Sw.Nl ?a;(case a=>k_is))
    | (refine' Sw.PX ?a ?l ?c ?k;(case a=>k_is);(case l=>k_is);(case c=>k_is);(case k=>k_is))
    | (refine' Sw.Pd ?a ?i ?l ?c ?k;(case a=>k_is);(case i=>k_is);(case l=>k_is);(case c=>k_is);(case k=>k_is))
    |skip
  obtain ⟨C,D,T⟩:=T
  obtain ⟨f,fd,hm,F,hb⟩:=T.Ju.ex
  have e:=hmg.symm.trans hm
  cases e
  have F2:=F
  obtain ⟨oc,od,kV,doc,pm,an,cdv,ct,osl,rfl,lk,hcd⟩:=F2.ex
  exact ⟨_,fun s us hu=>match us,hu with | [_],_=>.of_eq rfl,fun base kb nb=>Sw.Hf T _ _ F⟩
 case S =>
  intro K H xs a hO hwi PL hx
  cases hx with
  |cons h1 h2 =>
   cases h2
   cases h1 with
   |lst hs ha =>
    have e:=L2.IM a.1 _ ha
    subst e
    have q:((Codec.inLen 0 16000 a.1&&a.1.all (Codec.inInt (-9223372036854775808) 9223372036854775807))&&true)=true:=hwi
    rw [aE,aE] at q
    exact ⟨_,a.1,rfl,hs,(Codec.inNat_iff.mp q.1.1).2,PL,fun H' p hp=>.lst (L2.SqL.of hp) (L2.IW _)⟩
#print axioms PySem.Challenge.cw_switchrules_s01_answers_holds
