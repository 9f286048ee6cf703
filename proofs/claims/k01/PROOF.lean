import PyProof.Rows.All
import Wide.All
import OpenK.AllK
import Wide.FinOn
import HandS.ForMost
import HandS.ForExc
import HandS.IsInst
import HandS.Wide
import HandS.ExcInit
import HandS.ExcField
import HandS.TryMany
import HandS.MakeKw
import HandS.DictComp
import HandS.OwnEq
import HandS.Walk
import HandS.Style
import HandS.Flow
import HandS.Conv
import HandS.Zip
import HandS.TupAny
import HandS.Lambda
import HandS.EndTab
import KE.GoesEnum
import KE.GoesMore
import HandS.DictSub
import PyProof.InstNe
import HandS.Sort
import HandS.MakeKwOnly
import KE.KDictZip
import HandS.ListItems
import HandS.NoneIn
import HandS.Deep
import KE.KStateDown
import HandS.Defaults
import HandS.Head0
import HandS.Head1
import HandS.Head2
import HandS.HeadHook1
import HandS.HeadHook2
import HandS.HeadHook3
import HandS.HeadHook4
import HandS.HeadWalk
import PySem.Challenge.RW_heardsince_k01_whole_villages
set_option Elab.async false
set_option linter.all false
set_option maxRecDepth 100000
set_option maxHeartbeats 4000000
/-! The text by places; what the top leaves of each def. -/
namespace HS
open PySem L2
def top (i : Nat) : Stmt := PySem.Challenge.pw_heardsince_k01_whole_villages.main.body.getD i (.Pass ⟨0, 0, 0, 0⟩)
abbrev s_is_list : Stmt := top 5
abbrev s_is_integer : Stmt := top 6
abbrev s_is_name : Stmt := top 7
abbrev s_is_one_of : Stmt := top 8
abbrev s_is_pair_of : Stmt := top 9
abbrev s_check_person : Stmt := top 18
abbrev s_check_people : Stmt := top 19
abbrev s_first_bad_name : Stmt := top 20
abbrev s_check_ties : Stmt := top 21
abbrev s_first_bad_tie : Stmt := top 22
abbrev s_join_parts : Stmt := top 23
abbrev s_check_news : Stmt := top 24
abbrev s_first_bad_amount : Stmt := top 25
abbrev s_friends_by_ties : Stmt := top 26
abbrev s_inward_from : Stmt := top 27
abbrev s_toward_from : Stmt := top 28
abbrev s_law_spring : Stmt := top 30
abbrev s_law_draw : Stmt := top 31
abbrev s_law_pick : Stmt := top 32
abbrev s_law_mixed : Stmt := top 33
abbrev s_law_same : Stmt := top 34
abbrev s_law_loose : Stmt := top 35
abbrev s_law_v_names : Stmt := top 36
abbrev s_law_v_ties : Stmt := top 37
abbrev s_law_v_drawn : Stmt := top 38
abbrev s_law_v_friends : Stmt := top 39
abbrev s_law_v_way : Stmt := top 40
abbrev s_law_v_made : Stmt := top 41
abbrev s_law_met : Stmt := top 42
abbrev s_law_told_right : Stmt := top 43
abbrev s_law_equal_right : Stmt := top 44
abbrev s_law_odd_people : Stmt := top 45
abbrev s_law_odd_ties : Stmt := top 46
abbrev s_law_refused_right : Stmt := top 47
abbrev s_law_news_right : Stmt := top 48
abbrev s_law_rings_right : Stmt := top 49
abbrev s_law : Stmt := top 50
abbrev s_v_init : Stmt := inClass (top 17) 0
abbrev s_v_eq : Stmt := inClass (top 17) 1
abbrev s_v_people : Stmt := inClass (top 17) 2
abbrev s_v_ties : Stmt := inClass (top 17) 3
abbrev s_v_news : Stmt := inClass (top 17) 4
abbrev s_v_friends : Stmt := inClass (top 17) 5
abbrev s_v_way : Stmt := inClass (top 17) 6
abbrev s_v_behind : Stmt := inClass (top 17) 7
abbrev s_x_BadPeople : Stmt := inClass (top 12) 0
abbrev s_x_BadTies : Stmt := inClass (top 13) 0
abbrev s_x_BadNews : Stmt := inClass (top 14) 0
abbrev s_x_NoPerson : Stmt := inClass (top 15) 0
/-! ### kinds of things -/
inductive Kn where
  | non | bl | int | str | lst | tup | dct | fn
  deriving DecidableEq
def Kn.nm : Kn → String
  | .non => "NoneType" | .bl => "bool" | .int => "int" | .str => "str" | .lst => "list" | .tup => "tuple" | .dct => "dict" | .fn => "function"
/-- the addresses and the records -/
structure Ads where
  C : Addr
  a_is_list : Addr
  d_is_list : FuncData
  a_is_integer : Addr
  d_is_integer : FuncData
  a_is_name : Addr
  d_is_name : FuncData
  a_is_one_of : Addr
  d_is_one_of : FuncData
  a_is_pair_of : Addr
  d_is_pair_of : FuncData
  a_check_person : Addr
  d_check_person : FuncData
  a_check_people : Addr
  d_check_people : FuncData
  a_first_bad_name : Addr
  d_first_bad_name : FuncData
  a_check_ties : Addr
  d_check_ties : FuncData
  a_first_bad_tie : Addr
  d_first_bad_tie : FuncData
  a_join_parts : Addr
  d_join_parts : FuncData
  a_check_news : Addr
  d_check_news : FuncData
  a_first_bad_amount : Addr
  d_first_bad_amount : FuncData
  a_friends_by_ties : Addr
  d_friends_by_ties : FuncData
  a_inward_from : Addr
  d_inward_from : FuncData
  a_toward_from : Addr
  d_toward_from : FuncData
  a_law_spring : Addr
  d_law_spring : FuncData
  a_law_draw : Addr
  d_law_draw : FuncData
  a_law_pick : Addr
  d_law_pick : FuncData
  a_law_mixed : Addr
  d_law_mixed : FuncData
  a_law_same : Addr
  d_law_same : FuncData
  a_law_loose : Addr
  d_law_loose : FuncData
  a_law_v_names : Addr
  d_law_v_names : FuncData
  a_law_v_ties : Addr
  d_law_v_ties : FuncData
  a_law_v_drawn : Addr
  d_law_v_drawn : FuncData
  a_law_v_friends : Addr
  d_law_v_friends : FuncData
  a_law_v_way : Addr
  d_law_v_way : FuncData
  a_law_v_made : Addr
  d_law_v_made : FuncData
  a_law_met : Addr
  d_law_met : FuncData
  a_law_told_right : Addr
  d_law_told_right : FuncData
  a_law_equal_right : Addr
  d_law_equal_right : FuncData
  a_law_odd_people : Addr
  d_law_odd_people : FuncData
  a_law_odd_ties : Addr
  d_law_odd_ties : FuncData
  a_law_refused_right : Addr
  d_law_refused_right : FuncData
  a_law_news_right : Addr
  d_law_news_right : FuncData
  a_law_rings_right : Addr
  d_law_rings_right : FuncData
  a_law : Addr
  d_law : FuncData
  a_v_init : Addr
  d_v_init : FuncData
  a_v_eq : Addr
  d_v_eq : FuncData
  a_v_people : Addr
  d_v_people : FuncData
  a_v_ties : Addr
  d_v_ties : FuncData
  a_v_news : Addr
  d_v_news : FuncData
  a_v_friends : Addr
  d_v_friends : FuncData
  a_v_way : Addr
  d_v_way : FuncData
  a_v_behind : Addr
  d_v_behind : FuncData
  c_BadPeople : Addr
  a_x_BadPeople : Addr
  d_x_BadPeople : FuncData
  c_BadTies : Addr
  a_x_BadTies : Addr
  d_x_BadTies : FuncData
  c_BadNews : Addr
  a_x_BadNews : Addr
  d_x_BadNews : FuncData
  c_NoPerson : Addr
  a_x_NoPerson : Addr
  d_x_NoPerson : FuncData
/-- what an own error class is known by -/
structure XTxt (K : PySem.W.Frag) (mg : Str → Option Value) (nm q f : Str) (st : Stmt) (C fI : Addr) (fd : FuncData) : Prop where
  gC : mg nm = some (.ref C)
  ox : OexC K C
  xf : XfC K C
  noN : PySem.W.findIn K (.ref C) f = some none
  iC : PySem.W.findIn K (.ref C) "__init__" = some (some (.ref fI))
  tI : PySem.W.typeIn K (.ref fI) = some (.type "function")
  te : PySem.W.exmOne K (.ref C) (.ref C) = some true
  F : Fun K "__init__" q st fI fd
  b : Binds K fd ["self", f] []
structure Txt (K : PySem.W.Frag) (mg : Str → Option Value) (D : Ads) : Prop where
  F_is_list : Fun K "is_list" "is_list" s_is_list D.a_is_list D.d_is_list
  g_is_list : mg "is_list" = some (.ref D.a_is_list)
  b_is_list : Binds K D.d_is_list ["thing"] []
  F_is_integer : Fun K "is_integer" "is_integer" s_is_integer D.a_is_integer D.d_is_integer
  g_is_integer : mg "is_integer" = some (.ref D.a_is_integer)
  b_is_integer : Binds K D.d_is_integer ["thing"] []
  F_is_name : Fun K "is_name" "is_name" s_is_name D.a_is_name D.d_is_name
  g_is_name : mg "is_name" = some (.ref D.a_is_name)
  b_is_name : Binds K D.d_is_name ["thing"] []
  F_is_one_of : Fun K "is_one_of" "is_one_of" s_is_one_of D.a_is_one_of D.d_is_one_of
  g_is_one_of : mg "is_one_of" = some (.ref D.a_is_one_of)
  b_is_one_of : Binds K D.d_is_one_of ["known", "thing"] []
  F_is_pair_of : Fun K "is_pair_of" "is_pair_of" s_is_pair_of D.a_is_pair_of D.d_is_pair_of
  g_is_pair_of : mg "is_pair_of" = some (.ref D.a_is_pair_of)
  b_is_pair_of : Binds K D.d_is_pair_of ["known", "thing"] []
  F_check_person : Fun K "check_person" "check_person" s_check_person D.a_check_person D.d_check_person
  g_check_person : mg "check_person" = some (.ref D.a_check_person)
  b_check_person : Binds K D.d_check_person ["village", "person"] []
  F_check_people : Fun K "check_people" "check_people" s_check_people D.a_check_people D.d_check_people
  g_check_people : mg "check_people" = some (.ref D.a_check_people)
  b_check_people : Binds K D.d_check_people ["people"] []
  F_first_bad_name : Fun K "first_bad_name" "first_bad_name" s_first_bad_name D.a_first_bad_name D.d_first_bad_name
  g_first_bad_name : mg "first_bad_name" = some (.ref D.a_first_bad_name)
  b_first_bad_name : Binds K D.d_first_bad_name ["people"] []
  F_check_ties : Fun K "check_ties" "check_ties" s_check_ties D.a_check_ties D.d_check_ties
  g_check_ties : mg "check_ties" = some (.ref D.a_check_ties)
  b_check_ties : Binds K D.d_check_ties ["people", "ties"] []
  F_first_bad_tie : Fun K "first_bad_tie" "first_bad_tie" s_first_bad_tie D.a_first_bad_tie D.d_first_bad_tie
  g_first_bad_tie : mg "first_bad_tie" = some (.ref D.a_first_bad_tie)
  b_first_bad_tie : Binds K D.d_first_bad_tie ["people", "ties"] []
  F_join_parts : Fun K "join_parts" "join_parts" s_join_parts D.a_join_parts D.d_join_parts
  g_join_parts : mg "join_parts" = some (.ref D.a_join_parts)
  b_join_parts : Binds K D.d_join_parts ["parts", "one", "other"] []
  F_check_news : Fun K "check_news" "check_news" s_check_news D.a_check_news D.d_check_news
  g_check_news : mg "check_news" = some (.ref D.a_check_news)
  b_check_news : Binds K D.d_check_news ["people", "news"] []
  F_first_bad_amount : Fun K "first_bad_amount" "first_bad_amount" s_first_bad_amount D.a_first_bad_amount D.d_first_bad_amount
  g_first_bad_amount : mg "first_bad_amount" = some (.ref D.a_first_bad_amount)
  b_first_bad_amount : Binds K D.d_first_bad_amount ["many", "amounts", "least"] []
  F_friends_by_ties : Fun K "friends_by_ties" "friends_by_ties" s_friends_by_ties D.a_friends_by_ties D.d_friends_by_ties
  g_friends_by_ties : mg "friends_by_ties" = some (.ref D.a_friends_by_ties)
  b_friends_by_ties : Binds K D.d_friends_by_ties ["people", "ties"] []
  F_inward_from : Fun K "inward_from" "inward_from" s_inward_from D.a_inward_from D.d_inward_from
  g_inward_from : mg "inward_from" = some (.ref D.a_inward_from)
  b_inward_from : Binds K D.d_inward_from ["village", "middle"] []
  F_toward_from : Fun K "toward_from" "toward_from" s_toward_from D.a_toward_from D.d_toward_from
  g_toward_from : mg "toward_from" = some (.ref D.a_toward_from)
  b_toward_from : Binds K D.d_toward_from ["beside", "middle"] []
  F_law_spring : Fun K "_law_spring" "_law_spring" s_law_spring D.a_law_spring D.d_law_spring
  g_law_spring : mg "_law_spring" = some (.ref D.a_law_spring)
  b_law_spring : Binds K D.d_law_spring ["script", "turn"] []
  F_law_draw : Fun K "_law_draw" "_law_draw" s_law_draw D.a_law_draw D.d_law_draw
  g_law_draw : mg "_law_draw" = some (.ref D.a_law_draw)
  b_law_draw : Binds K D.d_law_draw ["spring", "many"] []
  F_law_pick : Fun K "_law_pick" "_law_pick" s_law_pick D.a_law_pick D.d_law_pick
  g_law_pick : mg "_law_pick" = some (.ref D.a_law_pick)
  b_law_pick : Binds K D.d_law_pick ["spring", "some"] []
  F_law_mixed : Fun K "_law_mixed" "_law_mixed" s_law_mixed D.a_law_mixed D.d_law_mixed
  g_law_mixed : mg "_law_mixed" = some (.ref D.a_law_mixed)
  b_law_mixed : Binds K D.d_law_mixed ["spring", "some"] []
  F_law_same : Fun K "_law_same" "_law_same" s_law_same D.a_law_same D.d_law_same
  g_law_same : mg "_law_same" = some (.ref D.a_law_same)
  b_law_same : Binds K D.d_law_same ["found", "due"] []
  F_law_loose : Fun K "_law_loose" "_law_loose" s_law_loose D.a_law_loose D.d_law_loose
  g_law_loose : mg "_law_loose" = some (.ref D.a_law_loose)
  b_law_loose : Binds K D.d_law_loose ["spring", "thing"] []
  F_law_v_names : Fun K "_law_v_names" "_law_v_names" s_law_v_names D.a_law_v_names D.d_law_v_names
  g_law_v_names : mg "_law_v_names" = some (.ref D.a_law_v_names)
  b_law_v_names : Binds K D.d_law_v_names ["spring", "many"] []
  F_law_v_ties : Fun K "_law_v_ties" "_law_v_ties" s_law_v_ties D.a_law_v_ties D.d_law_v_ties
  g_law_v_ties : mg "_law_v_ties" = some (.ref D.a_law_v_ties)
  b_law_v_ties : Binds K D.d_law_v_ties ["spring", "names"] []
  F_law_v_drawn : Fun K "_law_v_drawn" "_law_v_drawn" s_law_v_drawn D.a_law_v_drawn D.d_law_v_drawn
  g_law_v_drawn : mg "_law_v_drawn" = some (.ref D.a_law_v_drawn)
  b_law_v_drawn : Binds K D.d_law_v_drawn ["spring", "most"] []
  F_law_v_friends : Fun K "_law_v_friends" "_law_v_friends" s_law_v_friends D.a_law_v_friends D.d_law_v_friends
  g_law_v_friends : mg "_law_v_friends" = some (.ref D.a_law_v_friends)
  b_law_v_friends : Binds K D.d_law_v_friends ["form", "person"] []
  F_law_v_way : Fun K "_law_v_way" "_law_v_way" s_law_v_way D.a_law_v_way D.d_law_v_way
  g_law_v_way : mg "_law_v_way" = some (.ref D.a_law_v_way)
  b_law_v_way : Binds K D.d_law_v_way ["form", "one", "other"] []
  F_law_v_made : Fun K "_law_v_made" "_law_v_made" s_law_v_made D.a_law_v_made D.d_law_v_made
  g_law_v_made : mg "_law_v_made" = some (.ref D.a_law_v_made)
  b_law_v_made : Binds K D.d_law_v_made ["spring", "form"] []
  F_law_met : Fun K "_law_met" "_law_met" s_law_met D.a_law_met D.d_law_met
  g_law_met : mg "_law_met" = some (.ref D.a_law_met)
  b_law_met : Binds K D.d_law_met ["ask"] []
  F_law_told_right : Fun K "_law_told_right" "_law_told_right" s_law_told_right D.a_law_told_right D.d_law_told_right
  g_law_told_right : mg "_law_told_right" = some (.ref D.a_law_told_right)
  b_law_told_right : Binds K D.d_law_told_right ["spring", "form"] []
  F_law_equal_right : Fun K "_law_equal_right" "_law_equal_right" s_law_equal_right D.a_law_equal_right D.d_law_equal_right
  g_law_equal_right : mg "_law_equal_right" = some (.ref D.a_law_equal_right)
  b_law_equal_right : Binds K D.d_law_equal_right ["spring", "form"] []
  F_law_odd_people : Fun K "_law_odd_people" "_law_odd_people" s_law_odd_people D.a_law_odd_people D.d_law_odd_people
  g_law_odd_people : mg "_law_odd_people" = some (.ref D.a_law_odd_people)
  b_law_odd_people : Binds K D.d_law_odd_people ["names"] []
  F_law_odd_ties : Fun K "_law_odd_ties" "_law_odd_ties" s_law_odd_ties D.a_law_odd_ties D.d_law_odd_ties
  g_law_odd_ties : mg "_law_odd_ties" = some (.ref D.a_law_odd_ties)
  b_law_odd_ties : Binds K D.d_law_odd_ties ["names"] []
  F_law_refused_right : Fun K "_law_refused_right" "_law_refused_right" s_law_refused_right D.a_law_refused_right D.d_law_refused_right
  g_law_refused_right : mg "_law_refused_right" = some (.ref D.a_law_refused_right)
  b_law_refused_right : Binds K D.d_law_refused_right ["spring", "form"] []
  F_law_news_right : Fun K "_law_news_right" "_law_news_right" s_law_news_right D.a_law_news_right D.d_law_news_right
  g_law_news_right : mg "_law_news_right" = some (.ref D.a_law_news_right)
  b_law_news_right : Binds K D.d_law_news_right ["spring", "form"] []
  F_law_rings_right : Fun K "_law_rings_right" "_law_rings_right" s_law_rings_right D.a_law_rings_right D.d_law_rings_right
  g_law_rings_right : mg "_law_rings_right" = some (.ref D.a_law_rings_right)
  b_law_rings_right : Binds K D.d_law_rings_right ["spring", "form"] []
  F_law : Fun K "law" "law" s_law D.a_law D.d_law
  g_law : mg "law" = some (.ref D.a_law)
  b_law : Binds K D.d_law ["script"] []
  gC : mg "Village" = some (.ref D.C)
  cl : Cls K D.C
  mkr : Mk K D.C D.a_v_init
  hNe : PySem.W.findIn K (.ref D.C) "__ne__" = some (some (.builtin "object.__ne__"))
  hC : ∃ nm q N bs bm hdct sn sub ab col dd k0 k1 k2 k3 k5 newId, K.lookup D.C = some (excClassObj nm q D.C N bs bm hdct sn sub ab col dd k0 k1 k2 k3 k5 newId) ∧ bm.contains (.type "object") = true
  nf : ∀ k : Kn, PySem.W.subIn K (.type k.nm) (.ref D.C) = some false
  kit : ∀ k : Kn, PySem.W.kitOne K (.type k.nm) (.ref D.C) = some false
  ca : PySem.W.findIn K (.ref D.C) "__class__" = some (some (.builtin "object.__class__"))
  cg : PySem.W.specialIn K (.builtin "object.__class__") "__get__" = some (some (.builtin "getset_descriptor.__get__"))
  ct : PySem.W.takesIn K (.builtin "object.__class__") = some true
  cm : PySem.W.mroIn K D.C (.type "object") = some true
  no_people : NoAttr K D.C "_people"
  no_ties : NoAttr K D.C "_ties"
  no_news : NoAttr K D.C "_news"
  no_friends : NoAttr K D.C "_friends"
  F_v_init : Fun K "__init__" "Village.__init__" s_v_init D.a_v_init D.d_v_init
  m_v_init : Meth K D.C "__init__" D.a_v_init
  b_v_init : Binds K D.d_v_init ["self", "people", "ties", "news"] []
  F_v_eq : Fun K "__eq__" "Village.__eq__" s_v_eq D.a_v_eq D.d_v_eq
  m_v_eq : Meth K D.C "__eq__" D.a_v_eq
  b_v_eq : Binds K D.d_v_eq ["self", "other"] []
  F_v_people : Fun K "people" "Village.people" s_v_people D.a_v_people D.d_v_people
  m_v_people : Meth K D.C "people" D.a_v_people
  b_v_people : Binds K D.d_v_people ["self"] []
  F_v_ties : Fun K "ties" "Village.ties" s_v_ties D.a_v_ties D.d_v_ties
  m_v_ties : Meth K D.C "ties" D.a_v_ties
  b_v_ties : Binds K D.d_v_ties ["self"] []
  F_v_news : Fun K "news" "Village.news" s_v_news D.a_v_news D.d_v_news
  m_v_news : Meth K D.C "news" D.a_v_news
  b_v_news : Binds K D.d_v_news ["self"] []
  F_v_friends : Fun K "friends" "Village.friends" s_v_friends D.a_v_friends D.d_v_friends
  m_v_friends : Meth K D.C "friends" D.a_v_friends
  b_v_friends : Binds K D.d_v_friends ["self", "person"] []
  F_v_way : Fun K "way" "Village.way" s_v_way D.a_v_way D.d_v_way
  m_v_way : Meth K D.C "way" D.a_v_way
  b_v_way : Binds K D.d_v_way ["self", "one", "other"] []
  F_v_behind : Fun K "behind" "Village.behind" s_v_behind D.a_v_behind D.d_v_behind
  m_v_behind : Meth K D.C "behind" D.a_v_behind
  b_v_behind : Binds K D.d_v_behind ["self", "one", "other"] []
  x_BadPeople : XTxt K mg "BadPeople" "BadPeople.__init__" "index" s_x_BadPeople D.c_BadPeople D.a_x_BadPeople D.d_x_BadPeople
  x_BadTies : XTxt K mg "BadTies" "BadTies.__init__" "index" s_x_BadTies D.c_BadTies D.a_x_BadTies D.d_x_BadTies
  x_BadNews : XTxt K mg "BadNews" "BadNews.__init__" "index" s_x_BadNews D.c_BadNews D.a_x_BadNews D.d_x_BadNews
  x_NoPerson : XTxt K mg "NoPerson" "NoPerson.__init__" "person" s_x_NoPerson D.c_NoPerson D.a_x_NoPerson D.d_x_NoPerson
  ne_BadPeople_BadTies : PySem.W.exmOne K (.ref D.c_BadPeople) (.ref D.c_BadTies) = some false
  ne_BadPeople_BadNews : PySem.W.exmOne K (.ref D.c_BadPeople) (.ref D.c_BadNews) = some false
  ne_BadPeople_NoPerson : PySem.W.exmOne K (.ref D.c_BadPeople) (.ref D.c_NoPerson) = some false
  ne_BadTies_BadPeople : PySem.W.exmOne K (.ref D.c_BadTies) (.ref D.c_BadPeople) = some false
  ne_BadTies_BadNews : PySem.W.exmOne K (.ref D.c_BadTies) (.ref D.c_BadNews) = some false
  ne_BadTies_NoPerson : PySem.W.exmOne K (.ref D.c_BadTies) (.ref D.c_NoPerson) = some false
  ne_BadNews_BadPeople : PySem.W.exmOne K (.ref D.c_BadNews) (.ref D.c_BadPeople) = some false
  ne_BadNews_BadTies : PySem.W.exmOne K (.ref D.c_BadNews) (.ref D.c_BadTies) = some false
  ne_BadNews_NoPerson : PySem.W.exmOne K (.ref D.c_BadNews) (.ref D.c_NoPerson) = some false
  ne_NoPerson_BadPeople : PySem.W.exmOne K (.ref D.c_NoPerson) (.ref D.c_BadPeople) = some false
  ne_NoPerson_BadTies : PySem.W.exmOne K (.ref D.c_NoPerson) (.ref D.c_BadTies) = some false
  ne_NoPerson_BadNews : PySem.W.exmOne K (.ref D.c_NoPerson) (.ref D.c_BadNews) = some false
  z_isinstance : mg "isinstance" = none
  z_list : mg "list" = none
  z_tuple : mg "tuple" = none
  z_int : mg "int" = none
  z_bool : mg "bool" = none
  z_str : mg "str" = none
  z_dict : mg "dict" = none
  z_len : mg "len" = none
  z_all : mg "all" = none
  z_any : mg "any" = none
  z_enumerate : mg "enumerate" = none
  z_range : mg "range" = none
  z_zip : mg "zip" = none
  z_max : mg "max" = none
  z_sorted : mg "sorted" = none
  k_LETTERS : ∃ t, mg "LETTERS" = some (.str "abcdefghijklmnopqrstuvwxyz" t)
  k_SIGNS : ∃ t, mg "SIGNS" = some (.str "abcdefghijklmnopqrstuvwxyz0123456789" t)
  k_LONGEST : ∃ t, mg "LONGEST_NAME" = some (.int 8 t)
end HS

set_option maxHeartbeats 4000000
/-! isinstance of a def: its class is "function". -/
namespace PySem
open Sem (wp)
namespace HSF
theorem slot_ga : Slot "function" "__getattribute__" "object.__getattribute__" :=
  .of (owner := "object") (n := "__getattribute__") (by rw [typeLookup_type, builtinLookup_eq_fast]; kernel_rfl) (by decide +kernel) (by decide +kernel) (by decide +kernel)
    (by first | exact .inl (by decide +kernel) | exact .inr (by decide +kernel)) (by rw [isSubtype_type]; kernel_rfl)
theorem entry_ga : entryFor table "object.__getattribute__" = some Builtin.«object.__getattribute__» := entryFor_of_tree (by kernel_rfl)
theorem args_ga (a b : Value) : argsOk "object.__getattribute__" ⟨[a, b], []⟩ := by unfold argsOk; kernel_rfl
theorem lk_class : typeLookup (.type "function") "__class__" = pure (some (.builtin "object.__class__")) := by rw [typeLookup_type, builtinLookup_eq_fast]; kernel_rfl
theorem sub_owner : isSubtype (.type "function") (.type (".".intercalate ("object.__class__".cutAt '.').dropLast)) = pure true := by
  rw [F.owner_object_class, isSubtype_type]; kernel_rfl
section
variable {prog : Program} {w : World} {A : Around} {E : Value → Shared → Prop} {h : Heap} {g : Array GenState} {d : Drawn} {t : Nat} {os : OsState} {a : Addr} {o : Obj}
theorem class_get {R : Result → Shared → Prop} (hx : h.get? a = some o) (hc : o.cls = .type "function") (hq : R (.ok (.ret (.type "function"))) ⟨h, g, d, t, os⟩) :
    codeAny (model prog w) A (.call (.builtin "getset_descriptor.__get__") ⟨[.builtin "object.__class__", .ref a, .type "function"], []⟩) R ⟨h, g, d, t, os⟩ := by
  have hT : (⟨h, g, d, t, os⟩ : Shared).TypeIs (.ref a) "function" := ⟨_, hx, hc⟩
  have hT5 : (⟨h, g, d, t, os⟩ : Shared).TypeIs (.builtin "object.__class__") "getset_descriptor" := F.typeOf_object_class
  have f8 := sub_owner
  refine codeAny_call_builtin F.slot_gs_get.plain F.entry_gs_get (F.slot_gs_get.check _ _ _ _ _ _ _ _ hT5 (F.args_gs_get _ _ _) ?_)
  repeat (any_goals (first | assumption | wp_step))
  refine ⟨Code.quiet_builtin _ (by decide +kernel), codeAny_builtin F.entry_object_class ?_⟩
  repeat (any_goals (first | assumption | wp_step))
theorem class_entry {tk : Tok} {Q : Fin → Shared → Prop} (hx : h.get? a = some o) (hc : o.cls = .type "function") (hq : Q (.done (.ret (.type "function"))) ⟨h, g, d, t, os⟩) :
    wpAny (model prog w) A (Builtin.«object.__getattribute__» ⟨[.ref a, .str "__class__" tk], []⟩) Q E ⟨h, g, d, t, os⟩ := by
  have hT : (⟨h, g, d, t, os⟩ : Shared).TypeIs (.ref a) "function" := ⟨_, hx, hc⟩
  have hT5 : (⟨h, g, d, t, os⟩ : Shared).TypeIs (.builtin "object.__class__") "getset_descriptor" := F.typeOf_object_class
  have f4 := lk_class
  have f5 := F.typeOf_object_class
  have f6 := F.slot_gs_get.lookup
  have f7 := F.slot_gs_set.lookup
  repeat (any_goals (first | assumption | wp_step))
  refine class_get hx hc ?_
  repeat (any_goals (first | assumption | wp_step))
theorem class_call {tk : Tok} {R : Result → Shared → Prop} (hx : h.get? a = some o) (hc : o.cls = .type "function") (hq : R (.ok (.ret (.type "function"))) ⟨h, g, d, t, os⟩) :
    codeAny (model prog w) A (.call (.builtin "object.__getattribute__") ⟨[.ref a, .str "__class__" tk], []⟩) R ⟨h, g, d, t, os⟩ :=
  codeAny_call_builtin slot_ga.plain entry_ga (slot_ga.check _ _ _ _ _ _ _ _ (show (⟨h, g, d, t, os⟩ : Shared).TypeIs (.ref a) "function" from ⟨_, hx, hc⟩) (args_ga _ _) (class_entry hx hc hq))
theorem class_by {tk : Tok} {Q : Value → Shared → Prop} (hx : h.get? a = some o) (hc : o.cls = .type "function") (hq : Q (.type "function") ⟨h, g, d, t, os⟩) : wpAny (model prog w) A (getAttrBy (.ref a) (.str "__class__" tk) false) Q E ⟨h, g, d, t, os⟩ := by
  have hT : (⟨h, g, d, t, os⟩ : Shared).TypeIs (.ref a) "function" := ⟨_, hx, hc⟩
  have f2 := slot_ga.lookup
  have f3 := slot_ga.bind (.ref a)
  repeat (any_goals (first | assumption | wp_step))
  refine class_call hx hc ?_
  repeat (any_goals (first | assumption | wp_step))
theorem class_attr {Q : Option Value → Shared → Prop} (hx : h.get? a = some o) (hc : o.cls = .type "function") (hq : Q (some (.type "function")) ⟨h, g, d, t + 1, os⟩) : wpAny (model prog w) A (getAttr? (.ref a) "__class__") Q E ⟨h, g, d, t, os⟩ := by
  unfold getAttr? getAttrBy?
  repeat (any_goals (first | assumption | with_reducible apply class_by hx hc | wp_step))
end
end HSF
end PySem
namespace PySem.W
theorem kitx_fn {K : Frag} {a : Addr} : KitX K (.ref a) (.type "function") (KitAt a "function") := kitx_of kitAt_ty (fun {_ _ _ _ _ s} p k => by
  obtain ⟨h, g, d, t, os⟩ := s
  obtain ⟨o, h1, h2⟩ := p
  exact PySem.HSF.class_attr h1 h2 k)
end PySem.W

set_option maxHeartbeats 4000000
namespace HS
open PySem PySem.Spec L2
inductive TyK (K : PySem.W.Frag) (H : Hp) : V → Kn → Prop where
  | x {v : V} {k : Kn} (h : TyX K H v (.type k.nm)) : TyK K H v k
  | fn {a : Addr} {o : Obj} (h : K.lookup a = some o) (c : o.cls = .type "function") : TyK K H (.ref a) .fn
theorem TyK.non {K : PySem.W.Frag} {H : Hp} : TyK K H .non .non := .x (.base .non)
theorem TyK.bl {K : PySem.W.Frag} {H : Hp} (b : Bool) : TyK K H (.bl b) .bl := .x (.base (.bl b))
theorem TyK.int {K : PySem.W.Frag} {H : Hp} (i : Int) : TyK K H (.int i) .int := .x (.base (.int i))
theorem TyK.str {K : PySem.W.Frag} {H : Hp} (z : Str) : TyK K H (.str z) .str := .x (.base (.str z))
theorem TyK.seqL {K : PySem.W.Frag} {H : Hp} {a : Addr} {xs : List V} (h : SqL K H a xs) : TyK K H (.ref a) .lst := by
  rcases h with (h | ⟨o, h⟩) | ⟨o, _, _, e, c, _⟩
  · exact .x (.base (.lst h))
  · exact .x (.base (.frz h))
  · exact .x (.kList e c)
theorem TyK.seqT {K : PySem.W.Frag} {H : Hp} {a : Addr} {xs : List V} (h : SqT K H a xs) : TyK K H (.ref a) .tup := by
  rcases h with (h | ⟨o, h⟩) | ⟨o, _, _, e, c, _⟩
  · exact .x (.base (.tup h))
  · exact .x (.fTuple h)
  · exact .x (.kTuple e c)
theorem TyK.dK {K : PySem.W.Frag} {H : Hp} {a : Addr} {kvs : List (Key × V)} (h : H a = some (.dK kvs)) : TyK K H (.ref a) .dct := .x (.base (.dK h))
theorem TyK.ext {K : PySem.W.Frag} {H H' : Hp} {v : V} {k : Kn} (e : Same H H') (t : TyK K H v k) : TyK K H' v k := by
  cases t with
  | fn h c => exact .fn h c
  | x h =>
    refine .x ?_
    generalize Value.type k.nm = T at h
    cases h with
    | base b =>
      refine .base ?_
      cases b with
      | non => exact .non
      | bl y => exact .bl y
      | int i => exact .int i
      | str y => exact .str y
      | flt y => exact .flt y
      | lst q => exact .lst (e _ _ q)
      | frz q => exact .frz (e _ _ q)
      | tup q => exact .tup (e _ _ q)
      | dK q => exact .dK (e _ _ q)
      | dT q => exact .dT (e _ _ q)
      | ins q c a b d f => exact .ins (e _ _ q) c a b d f
    | byt b => exact .byt b
    | set q => exact .set (e _ _ q)
    | kList q c => exact .kList q c
    | kTuple q c => exact .kTuple q c
    | kDict q c => exact .kDict q c
    | fTuple q => exact .fTuple (e _ _ q)
    | fDict q => exact .fDict (e _ _ q)
def isSub : Kn → String → Bool
  | k, s => decide (k.nm = s) || (decide (k = .bl) && decide (s = "int"))
section
variable {X : Cx} {pins : List (Addr × Obj)} {σ : St} {H : Hp} {s : Shared}
theorem kit_ofK {x : V} {u : Value} {k : Kn} (I : Inv X pins σ H s) (rx : RelV x u) (ty : TyK X.K H x k) : ∃ P : Heap → Prop, PySem.W.KitX X.K u (.type k.nm) P ∧ P s.heap ∧ u ≠ .builtin "__main__.__loader__#opaque" := by
  cases ty with
  | x h => exact kit_of I rx h
  | @fn a o h c =>
    cases (show u = Value.ref a from rx)
    exact ⟨_, PySem.W.kitx_fn, ⟨o, I.kIn a o h, c⟩, fun z => nomatch z⟩
end
/-- isinstance(x, T), T a built-in class -/
def rIsK (K : PySem.W.Frag) : List V → Hp → VK → Prop := fun xs H Q => ∃ (x : V) (n : String) (k : Kn) (b : Bool), xs = [x, .ty n] ∧ TyK K H x k ∧ kitB k.nm n = some b ∧ Q (.bl b) H
def rIsK2 (K : PySem.W.Frag) : List V → Hp → VK → Prop := fun xs H Q => ∃ (x : V) (tp : Addr) (n m : String) (k : Kn) (b c : Bool), xs = [x, .ref tp] ∧ H tp = some (.tup [.ty n, .ty m]) ∧ TyK K H x k ∧ kitB k.nm n = some b ∧ kitB k.nm m = some c ∧ Q (.bl (b || c)) H
section
variable {X : Cx}
theorem call_isK : CallR X (.builtin "isinstance") (rIsK X.K) := by
  intro pins s σ H xs us Q I r h
  obtain ⟨x, n, k, b, rfl, ty, e, q⟩ := h
  obtain ⟨u1, u2, rfl, r1, r2⟩ := vals2 r
  cases (show u2 = Value.type n from r2)
  obtain ⟨P, Z, p, hx⟩ := kit_ofK I r1 ty
  exact PySem.W.kia_one Z I.kIn p (kit_ty e) hx fun tk => ⟨.bl b, H, I.tok tk, rfl, q⟩
theorem call_isK2 : CallR X (.builtin "isinstance") (rIsK2 X.K) := by
  intro pins s σ H xs us Q I r h
  obtain ⟨x, tp, n, m, k, b, c, rfl, hT, ty, e1, e2, q⟩ := h
  obtain ⟨u1, u2, rfl, r1, r2⟩ := vals2 r
  cases (show u2 = Value.ref tp from r2)
  obtain ⟨P, Z, p, hx⟩ := kit_ofK I r1 ty
  obtain ⟨_, its, rv, o, h1, h2, nn, h3⟩ := (show ObjOk X.prog X.w H s.heap tp (.tup [.ty n, .ty m]) from I.hok tp _ hT)
  have e3 := ClsV.all (.cons (.ty n) (.cons (.ty m) .nil)) rv
  subst e3
  obtain ⟨oc, od, dt, sl⟩ := o
  simp only at h2 h3
  subst h2 h3
  have ka : PySem.W.kitAny X.K (.type k.nm) [.type n, .type m] = some (b || c) := by
    cases b <;> cases c
    · exact kitAny_cons (kit_ty e1) (fun _ => kitAny_cons (kit_ty e2) (fun _ => kitAny_nil) fun z => nomatch z) fun z => nomatch z
    · exact kitAny_cons (kit_ty e1) (fun _ => kitAny_cons (kit_ty e2) (fun z => nomatch z) fun _ => rfl) fun z => nomatch z
    · exact kitAny_cons (kit_ty e1) (fun z => nomatch z) fun _ => rfl
    · exact kitAny_cons (kit_ty e1) (fun z => nomatch z) fun _ => rfl
  exact PySem.W.kia_tup Z I.kIn p h1 ka hx fun tk => ⟨.bl (b || c), H, I.tok tk, rfl, q⟩
end
def isLT (k : Kn) : Bool := decide (k = .lst) || decide (k = .tup)
theorem kb_list (k : Kn) : kitB k.nm "list" = some (decide (k = .lst)) := by cases k <;> decide +kernel
theorem kb_tuple (k : Kn) : kitB k.nm "tuple" = some (decide (k = .tup)) := by cases k <;> decide +kernel
theorem kb_str (k : Kn) : kitB k.nm "str" = some (decide (k = .str)) := by cases k <;> decide +kernel
theorem kb_int (k : Kn) : kitB k.nm "int" = some (decide (k = .int) || decide (k = .bl)) := by cases k <;> decide +kernel
theorem kb_bool (k : Kn) : kitB k.nm "bool" = some (decide (k = .bl)) := by cases k <;> decide +kernel
theorem kb_dict (k : Kn) : kitB k.nm "dict" = some (decide (k = .dct)) := by cases k <;> decide +kernel
theorem boot_isinstance : bootBuiltins "isinstance" = some (.builtin "isinstance") := by decide +kernel
theorem boot_list' : bootBuiltins "list" = some (.type "list") := by decide +kernel
theorem boot_tuple' : bootBuiltins "tuple" = some (.type "tuple") := by decide +kernel
theorem boot_int' : bootBuiltins "int" = some (.type "int") := by decide +kernel
theorem boot_bool' : bootBuiltins "bool" = some (.type "bool") := by decide +kernel
theorem boot_str' : bootBuiltins "str" = some (.type "str") := by decide +kernel
theorem boot_dict' : bootBuiltins "dict" = some (.type "dict") := by decide +kernel
theorem boot_all' : bootBuiltins "all" = some (.builtin "all") := by decide +kernel
theorem boot_any' : bootBuiltins "any" = some (.builtin "any") := by decide +kernel
section
variable {P : Program} {w : World} {K : PySem.W.Frag} {mg : Str → Option Value} {base : Heap} {D : Ads}
/-! ### is_list, is_integer -/
def sp_is_list (K : PySem.W.Frag) : Sp := fun vs H Q _ => ∃ x k, vs = [x] ∧ TyK K H x k ∧ ∀ H', Same H H' → Q (.bl (isLT k)) H'
theorem sc_is_list : FnScope ["thing"] ["thing"] (defScope s_is_list) := ⟨rfl, rfl, rfl, by decide +kernel, rfl, by decide +kernel, by decide +kernel⟩
theorem ok_is_list (T : Txt K mg D) : FnOk P w K mg base CX0 1 D.a_is_list D.d_is_list ["thing"] (sp_is_list K) := by
  refine T.F_is_list.ok sc_is_list (fun vs H Q E h => ?_) (fun cdv A outer s H vs Q E hr h => ?_)
  · obtain ⟨x, k, rfl, _⟩ := h
    rfl
  · obtain ⟨x, k, rfl, ty, q⟩ := h
    refine ⟨_, pss_one (ps_ret (pe_callB call_isK2 (by rfl) T.z_isinstance boot_isinstance (pa_cons (pv 0) (pa_cons (pe_tup (pa_cons (pe_bltn (by rfl) T.z_list boot_list' (v := .ty "list") rfl) (pa_cons (pe_bltn (by rfl) T.z_tuple boot_tuple' (v := .ty "tuple") rfl) pa_nil))) pa_nil)))), ?_⟩
    refine ⟨_, rfl, (by show 2 ≤ sizeLine; decide), fun t ht => ?_⟩
    have s1 : Same H (upd H t (.tup [.ty "list", .ty "tuple"])) := fun b o e => by rw [upd_ne (ne_of_none e ht)]; exact e
    exact ⟨x, t, _, _, k, _, _, rfl, upd_same, ty.ext s1, kb_list k, kb_tuple k, q _ s1⟩
def sp_is_integer (K : PySem.W.Frag) : Sp := fun vs H Q _ => ∃ x k, vs = [x] ∧ TyK K H x k ∧ Q (.bl (decide (k = .int))) H
theorem sc_is_integer : FnScope ["thing"] ["thing"] (defScope s_is_integer) := ⟨rfl, rfl, rfl, by decide +kernel, rfl, by decide +kernel, by decide +kernel⟩
theorem ok_is_integer (T : Txt K mg D) : FnOk P w K mg base CX0 1 D.a_is_integer D.d_is_integer ["thing"] (sp_is_integer K) := by
  refine T.F_is_integer.ok sc_is_integer (fun vs H Q E h => ?_) (fun cdv A outer s H vs Q E hr h => ?_)
  · obtain ⟨x, k, rfl, _⟩ := h
    rfl
  · obtain ⟨x, k, rfl, ty, q⟩ := h
    refine ⟨_, pss_one (ps_ret (pe_and (pe_callB call_isK (by rfl) T.z_isinstance boot_isinstance (pa_cons (pv 0) (pa_cons (pe_bltn (by rfl) T.z_int boot_int' (v := .ty "int") rfl) pa_nil)))
      (pe_one (pe_not (pe_callB call_isK (by rfl) T.z_isinstance boot_isinstance (pa_cons (pv 0) (pa_cons (pe_bltn (by rfl) T.z_bool boot_bool' (v := .ty "bool") rfl) pa_nil))))))), ?_⟩
    refine ⟨_, rfl, x, _, k, _, rfl, ty, kb_int k, _, rfl, ?_⟩
    refine ite2 (fun c => ?_) (fun c => ?_)
    · refine ⟨_, rfl, x, _, k, _, rfl, ty, kb_bool k, _, rfl, ?_⟩
      have e : (!decide (k = .bl)) = decide (k = .int) := by cases k <;> first | rfl | simp at c
      rw [e]; exact q
    · have e : decide (k = .int) = false := by cases k <;> first | rfl | simp at c
      rw [e] at q; exact q
end
end HS

set_option maxHeartbeats 4000000
namespace HS
open PySem PySem.Spec L2
/-! ### comprehensions that only make objects -/
theorem same_new {H : Hp} {p : Addr} {o : HO} (hp : H p = none) : Same H (upd H p o) := fun b u e => by rw [upd_ne (ne_of_none e hp)]; exact e
theorem Same.new' {H H1 : Hp} {p : Addr} {o : HO} (s : Same H H1) (hp : H1 p = none) : Same H (upd H1 p o) := s.trans (same_new hp)
theorem range_snoc {n : Nat} : List.range (n + 1) = List.range n ++ [n] := List.range_succ
theorem lc_grow {J : It} {n : Nat} {G : Hp → Prop} {Y : Nat → Hp → V → Hp → Prop} (w : Walk J n G Y) {g : TG} {tt : TT} {te : TE} {vs : List Nat} {σ : L2.St} {H1 : Hp} {D : Addr} {Qd : Hp → Prop} (p : Nat → Bool) (f : Nat → V) (hD : H1 D = none) (hn : n ≤ 1000000)
    (hG : ∀ H, Same H1 H → G H)
    (hs : ∀ i x H H', i < n → Same H1 H → Y i H x H' → g x (wipe σ vs) H' fun σ2 H2 => wipe σ2 vs = wipe σ vs ∧ tt σ2 H2 fun b H3 => b = p i ∧ if b = true then te σ2 H3 fun y H4 => y = f i ∧ Same H H4 else Same H H3)
    (hmono : ∀ (x : V) (σ' : L2.St) (H : Hp) (Q Q' : L2.St → Hp → Prop), (∀ a b, Q a b → Q' a b) → g x σ' H Q → g x σ' H Q')
    (hmt : ∀ (σ' : L2.St) (H : Hp) (Q Q' : Bool → Hp → Prop), (∀ a b, Q a b → Q' a b) → tt σ' H Q → tt σ' H Q')
    (hme : ∀ (σ' : L2.St) (H : Hp) (Q Q' : V → Hp → Prop), (∀ a b, Q a b → Q' a b) → te σ' H Q → te σ' H Q')
    (hd : ∀ H, Same H1 H → H D = some (.lst (((List.range n).filter p).map f)) → Qd H) :
    ∃ W : Nat → Nat → Hp → Prop, (∃ m, W 0 m (upd H1 D (.lst []))) ∧ ∀ i m H, W i m H →
      (J.stop i H ∧ Qd H) ∨ (J.go i H ∧ ∃ Nx : Hp → Prop, (∀ H', Nx H' → ∃ m', m' < m ∧ W (i + 1) m' H') ∧ ∀ x H', J.yld i H x H' → g x (wipe σ vs) H' fun σ2 H2 => wipe σ2 vs = wipe σ vs ∧ tt σ2 H2 fun b H3 =>
        if b = true then te σ2 H3 fun y H4 => ∃ acc, H4 D = some (.lst acc) ∧ acc.length < sizeLine ∧ Nx (upd H4 D (.lst (acc ++ [y]))) else Nx H3) := by
  refine lc_it w (fun i H => i ≤ n ∧ Same H1 H ∧ H D = some (.lst (((List.range i).filter p).map f))) ⟨Nat.zero_le _, same_new hD, upd_same⟩ (fun i H _ q => hG H q.2.1) (fun i x H H' hi q y => ?_) fun H q => hd H q.2.1 q.2.2
  obtain ⟨_, q1, q2⟩ := q
  refine hmono _ _ _ _ _ (fun σ2 H2 z => ⟨z.1, hmt _ _ _ _ (fun b H3 z2 => ?_) z.2⟩) (hs i x H H' hi q1 y)
  obtain ⟨eb, z2⟩ := z2
  cases hp : p i with
  | true =>
    rw [eb, hp] at z2 ⊢
    rw [if_pos rfl] at z2 ⊢
    refine hme _ _ _ _ (fun y H4 z3 => ?_) z2
    obtain ⟨ey, s4⟩ := z3
    have e4 := s4 _ _ q2
    refine ⟨_, e4, ?_, hi, fun b o e => ?_, ?_⟩
    · rw [List.length_map]
      have h1 := List.length_filter_le p (List.range i)
      rw [List.length_range] at h1
      have h2 : (1000000 : Nat) < sizeLine := by decide
      omega
    · rw [upd_ne (ne_of_none e hD)]
      exact s4 _ _ (q1 _ _ e)
    · rw [upd_same, range_snoc, List.filter_append, List.map_append, ey]
      simp [hp]
  | false =>
    rw [eb, hp] at z2 ⊢
    rw [if_neg Bool.false_ne_true] at z2 ⊢
    refine ⟨hi, q1.trans z2, ?_⟩
    rw [z2 _ _ q2, range_snoc, List.filter_append]
    simp [hp]
theorem filter_true' {n : Nat} : (List.range n).filter (fun _ => true) = List.range n := List.filter_eq_self.mpr fun _ _ => rfl
/-! ### names -/
def Lt : List Nat := ("abcdefghijklmnopqrstuvwxyz" : Str).cps.toList
def Sg : List Nat := ("abcdefghijklmnopqrstuvwxyz0123456789" : Str).cps.toList
def nameL : List Nat → Bool
  | [] => false
  | c :: r => decide (r.length + 1 ≤ 8) && (decide (c ∈ Lt) && (c :: r).all fun c => decide (c ∈ Sg))
def nameB (z : Str) : Bool := nameL z.cps.toList
theorem nameL_cons (c : Nat) (r : List Nat) : nameL (c :: r) = (decide (r.length + 1 ≤ 8) && (decide (c ∈ Lt) && (c :: r).all fun c => decide (c ∈ Sg))) := rfl
theorem TyK.str_of {K : PySem.W.Frag} {H : Hp} {x : V} (h : TyK K H x .str) : ∃ z, x = .str z := by
  cases h with
  | x h =>
    have e : Value.type Kn.str.nm = Value.type "str" := rfl
    rw [e] at h
    generalize hT : Value.type "str" = T at h
    cases h with
    | base b => cases b <;> first | exact ⟨_, rfl⟩ | (simp at hT)
    | _ => simp at hT
theorem map_get {α β : Type} (f : α → β) (d : β) (l : List α) : (List.range l.length).map (fun i => (l[i]?.map f).getD d) = l.map f := by
  apply List.ext_getElem
  · simp
  · intro i h1 h2
    simp at h1 h2
    simp [h2]
section
variable {P : Program} {w : World} {K : PySem.W.Frag} {mg : Str → Option Value} {base : Heap} {D : Ads}
def sp_is_name (K : PySem.W.Frag) : Sp := fun vs H Q _ => ∃ x k, vs = [x] ∧ TyK K H x k ∧ (∀ z, x = .str z → z.length ≤ 1000 ∧ ∀ H', Same H H' → Q (.bl (nameB z)) H') ∧ (k ≠ .str → Q (.bl false) H)
theorem sc_is_name : FnScope ["thing", "sign"] ["thing"] (defScope s_is_name) := ⟨rfl, rfl, rfl, by decide +kernel, rfl, by decide +kernel, by decide +kernel⟩
theorem ok_is_name (T : Txt K mg D) : FnOk P w K mg base CX0 1 D.a_is_name D.d_is_name ["thing"] (sp_is_name K) := by
  refine T.F_is_name.ok sc_is_name (fun vs H Q E h => ?_) (fun cdv A outer s H vs Q E hr h => ?_)
  · obtain ⟨x, k, rfl, _⟩ := h
    rfl
  · obtain ⟨x, k, rfl, ty, q1, q2⟩ := h
    obtain ⟨t1, g1⟩ := T.k_LETTERS
    obtain ⟨t2, g2⟩ := T.k_SIGNS
    obtain ⟨t3, g3⟩ := T.k_LONGEST
    refine ⟨_, pss_cons (ps_if (PW.pt (pw_or (pt_not (pt_val (pe_callB call_isK (by rfl) T.z_isinstance boot_isinstance (pa_cons (pv 0) (pa_cons (pe_bltn (by rfl) T.z_str boot_str' (v := .ty "str") rfl) pa_nil)))))
        (pw_or (pt_cmpR op_eq (pv 0) pe_str (nomark _)) (pw_or1 (pt_cmpR op_gt (pe_callB call_len_str (by rfl) T.z_len PySem.boot_len (pa_cons (pv 0) pa_nil)) (pe_glob (v := .int 8) (by rfl) g3 ⟨_, rfl⟩) (nomark _)))))) (pss_one (ps_ret pe_bl)) pss_nil)
      (pss_one (ps_ret (pe_and (pe_cmpR op_in_sign (pe_ix ix_str (pv 0) pe_int (fun _ _ => rfl)) (pe_glob (v := .str "abcdefghijklmnopqrstuvwxyz") (by rfl) g1 ⟨_, rfl⟩) (by rfl))
        (pe_one (pe_callB (cr_all rfl) (by rfl) T.z_all boot_all' (pa_cons (pe_lc (own := [("sign", 1)]) (g := gName 1) (tt := tYes) rfl sc_is_name.nd (pi_str (pv 0)) (blkOk_by (N := ["thing", "sign"]) (sc := defScope s_is_name) (by decide +kernel))
          (fun _ _ _ _ _ => pg_name (i := 1) sc_is_name.nd rfl (Or.inl rfl)) (fun _ _ _ _ _ => pts_nil) (fun _ _ _ _ _ => pe_cmpR op_in_sign (pv 1) (pe_glob (v := .str "abcdefghijklmnopqrstuvwxyz0123456789") (by rfl) g2 ⟨_, rfl⟩) (by rfl))) pa_nil)))))), ?_⟩
    refine ⟨_, rfl, x, _, k, _, rfl, ty, kb_str k, _, rfl, ?_⟩
    by_cases hk : k = .str
    · subst hk
      obtain ⟨z, rfl⟩ := ty.str_of
      obtain ⟨hz, q⟩ := q1 z rfl
      have hsz : z.length ≤ sizeLine := Nat.le_trans hz (by decide)
      refine iteF ?_
      refine ⟨_, rfl, rfl, _, rfl, ?_⟩
      have hlen : z.length = z.cps.toList.length := by simp [Str.length]
      refine ite2 (fun c => ?_) (fun c => ?_)
      · have e : z = "" := V.str.inj (of_decide_eq_true c)
        have e2 : nameB z = false := by rw [e]; rfl
        rw [e2] at q
        exact q H (Same.refl H)
      · have ne : z.cps.toList ≠ [] := fun z0 => c (decide_eq_true (by
          have : z = ⟨#[]⟩ := by
            cases z with
            | mk cps =>
              have : cps = #[] := by simpa using z0
              rw [this]
          rw [this]; rfl))
        refine ⟨_, rfl, z, rfl, hsz, _, _, rfl, rfl, _, rfl, ?_⟩
        refine ite2 (fun c => ?_) (fun c => ?_)
        · have c' := of_decide_eq_true c
          have e2 : nameB z = false := by
            unfold nameB
            cases hl : z.cps.toList with
            | nil => rfl
            | cons a r =>
              rw [hlen, hl, List.length_cons] at c'
              rw [nameL_cons, decide_eq_false (by omega)]; rfl
          rw [e2] at q
          exact q H (Same.refl H)
        · have c' : ¬ (8 : Int) < z.length := fun h => c (decide_eq_true h)
          obtain ⟨a, r, hl⟩ := List.exists_cons_of_ne_nil ne
          have hn : nameB z = (decide (a ∈ Lt) && (a :: r).all fun c => decide (c ∈ Sg)) := by
            unfold nameB
            rw [hlen, hl, List.length_cons] at c'
            rw [hl, nameL_cons, decide_eq_true (by omega)]; rfl
          refine ⟨_, rfl, z, (0 : Int), a, rfl, rfl, hsz, (show atI z.cps.toList ((0 : Nat) : Int) = some a from atI_nat (by rw [hl]; rfl)), a, _, rfl, rfl, _, rfl, ?_⟩
          refine ite2 (fun c1 => ?_) (fun c1 => ?_)
          · refine ⟨_, rfl, z, rfl, fun Dd hD => ?_⟩
            refine lc_grow walk_str (fun _ => true) (fun i => (z.cps.toList[i]?.map fun c => V.bl (decide (c ∈ Sg))).getD .non) hD (by simp only [Str.length] at hz; omega) (fun _ _ => True.intro) (fun i x H2 H3 hi s2 y => ?_) (fun _ _ _ _ _ h z => h _ _ z) (fun _ _ _ _ h z => h _ _ z) (fun _ _ _ _ h z => ?_) fun H2 s2 e2 => ?_
            · obtain ⟨rfl, c, hc, rfl⟩ := y
              refine ⟨rfl, rfl, ?_⟩
              refine iteT ⟨_, rfl, c, _, rfl, rfl, ?_, Same.refl _⟩
              have : z.cps.toList[i]? = some c := by simpa using hc
              rw [this]; rfl
            · obtain ⟨v, h1, c0, z0, h2, h3, h4⟩ := z
              exact ⟨v, h1, c0, z0, h2, h3, h _ _ h4⟩
            · rw [filter_true'] at e2
              have e3 : (List.range z.cps.size).map (fun i => (z.cps.toList[i]?.map fun c => V.bl (decide (c ∈ Sg))).getD .non) = (z.cps.toList.map fun c => decide (c ∈ Sg)).map V.bl := by
                have := map_get (fun c => V.bl (decide (c ∈ Sg))) .non z.cps.toList
                rw [Array.length_toList] at this
                rw [this, List.map_map]; rfl
              rw [e3] at e2
              refine ⟨Dd, _, rfl, SqL.of e2, ?_⟩
              have q' := q H2 s2
              rw [hn] at q'
              have c1' : decide (a ∈ Lt) = true := c1
              rw [c1', Bool.true_and, ← hl] at q'
              show Q (.bl ((z.cps.toList.map fun c => decide (c ∈ Sg)).all id)) H2
              rw [List.all_map]
              exact q'
          · have q' := q H (Same.refl H)
            rw [hn] at q'
            have c1' : decide (a ∈ Lt) = false := by
              cases hd : decide (a ∈ Lt) with
              | true => exact absurd hd c1
              | false => rfl
            rw [c1', Bool.false_and] at q'
            exact q'
    · rw [decide_eq_false hk]
      refine iteT ?_
      exact q2 hk
end
end HS

set_option maxHeartbeats 4000000
/-! enumerate of a tuple; either of a list and a tuple. -/
namespace PySem
open Sem (wp)
open AutoSeq1 (wpAny_loadPart')
namespace HSE
theorem meets_newT (l : Addr) (items : Array Value) (n : Nat) (dct : Option Addr) (sl : Array (Option Value)) :
    Meets (Builtin.«enumerate.__new__» ⟨[.type "enumerate", .ref l], []⟩) (fun _ R s => s.heap.get? l = some { cls := .type "tuple", dict := dct, data := .seq items n, slots := sl } ∧
      R (.ok (.ret (.ref (s.heap.push { cls := .type "tuple_iterator", data := .fields #[.ref l, .int 0 0] }).objs.size)))
        { s with heap := (s.heap.push { cls := .type "tuple_iterator", data := .fields #[.ref l, .int 0 0] }).push { cls := .type "enumerate", data := .fields #[.none, .bool false, .ref s.heap.objs.size, rawInt 0, .none, .none] } }) :=
  .of_wp fun prog w A R s h => by
    obtain ⟨hp, g, d, tk, os⟩ := s; obtain ⟨hl, h⟩ := h
    have hsub := sub_enumerate
    have hL : Heap.IsTuple (Shared.heap ⟨hp, g, d, tk, os⟩) l items := ⟨_, hl, rfl, n, rfl⟩
    wp_walk using wpAny_loadPart' hl
    refine wpAny_stack_any fun st => wpAny_pure ?_
    split
    · rename_i c _ _ _ _ _
      cases (c == Value.type "enumerate")
      · wp_walk using wpAny_loadPart' hl, wpAny_pyIter_tuple hL
        exact ⟨_, rfl, h⟩
      · wp_walk using wpAny_loadPart' hl, wpAny_pyIter_tuple hL
        exact ⟨_, rfl, h⟩
    · wp_walk using wpAny_loadPart' hl, wpAny_pyIter_tuple hL
      exact ⟨_, rfl, h⟩
section
variable {prog : Program} {w : World} {A : Around} {E : Value → Shared → Prop} {s : Shared}
theorem call_enumerate_tuple {l : Addr} {items : Array Value} {Q : Value → Shared → Prop} (hL : s.heap.IsTuple l items)
    (h : ∀ h', IsEnum h' (s.heap.objs.size + 1) s.heap.objs.size 0 .none → h'.IsTupleIter s.heap.objs.size l 0 → h'.objs.size = s.heap.objs.size + 2 →
      (∀ b o, s.heap.get? b = some o → h'.get? b = some o) → Q (.ref (s.heap.objs.size + 1)) { s with heap := h' }) :
    wpAny (model prog w) A (call (.type "enumerate") [.ref l]) Q E s := by
  obtain ⟨⟨c, dct, dt, sl⟩, hl, hc, n, hd⟩ := hL
  replace hc : c = .type "tuple" := hc
  replace hd : dt = .seq items n := hd
  subst hc hd
  refine callType_new F.called_enumerate (by decide) (F.typeCall_enumerate_1 _) (F.newCall_enumerate_1 _) (fun obj => F.args_object_init_2 obj _) F.entry_enumerate_new
    (meets_newT l items n dct sl) ⟨hl, ?_⟩
  have hz : (s.heap.push { cls := .type "tuple_iterator", data := .fields #[.ref l, .int 0 0] }).objs.size = s.heap.objs.size + 1 := Heap.size_push ..
  show _ ∧ _
  rw [hz]
  have he : IsEnum ((s.heap.push { cls := .type "tuple_iterator", data := .fields #[.ref l, .int 0 0] }).push
      { cls := .type "enumerate", data := .fields #[.none, .bool false, .ref s.heap.objs.size, rawInt 0, .none, .none] }) (s.heap.objs.size + 1) s.heap.objs.size 0 .none := by
    have := Heap.get?_push_size (s.heap.push { cls := .type "tuple_iterator", data := .fields #[.ref l, .int 0 0] })
      (o := { cls := .type "enumerate", data := .fields #[.none, .bool false, .ref s.heap.objs.size, rawInt 0, .none, .none] }) rfl
    rw [hz] at this; exact this
  refine ⟨⟨_, he, rfl⟩, h _ he ⟨_, Heap.get?_push_of_some _ (Heap.get?_push_size _ rfl), rfl, rfl⟩ (by rw [Heap.size_push, hz]) fun b o x => Heap.get?_push_of_some _ (Heap.get?_push_of_some _ x)⟩
end
end HSE
end PySem
namespace HS
open PySem PySem.Spec L2
/-- the tuple at a, each item in a new pair with its number -/
def IteT (K : PySem.W.Frag) (a : Addr) : It :=
  ⟨fun i H => ∃ (xs : List V) (x : V), SqT K H a xs ∧ xs[i]? = some x, fun i H v H' => ∃ T x, v = .ref T ∧ H T = none ∧ H' = upd H T (.tup [.int (i : Nat), x]) ∧ ∀ xs, SqT K H a xs → xs[i]? = some x, fun i H => ∃ xs : List V, SqT K H a xs ∧ xs.length ≤ i⟩
theorem turn_enumT {P : Program} {w : World} {K : PySem.W.Frag} {elts : List Expr} {kk : Nat} {tpos : Pos} (a e it : Addr) (hai : a ≠ it) (hae : a ≠ e) :
    Turn P w K (.Tuple elts kk tpos) (IteT K a) [e, it] e (fun i h => (∃ old, PySem.IsEnum h e it ((i : Nat) : Int) old) ∧ h.IsTupleIter it a i ∧ e ≠ it) where
  mem := by simp
  obj := fun i h st b hb => by
    obtain ⟨⟨old, he⟩, ⟨o, ho, hc, hd⟩, _⟩ := st
    have e' : b = e ∨ b = it := by simpa using hb
    rcases e' with z | z
    · rw [z]; exact ⟨_, he, fun v q => nomatch q⟩
    · rw [z]; exact ⟨o, ho, fun v q => by rw [hd] at q; cases q⟩
  keep := fun i h h' st k => let ⟨⟨old, he⟩, hi, hne⟩ := st; ⟨⟨old, k e (by simp) _ he⟩, hi.at fun o q => k it (by simp) o q, hne⟩
  item := by
    intro X hP hw hK hc i pins s σ H E I hf st hg
    subst hP hw hK
    obtain ⟨⟨old, he⟩, hit, hne⟩ := st
    obtain ⟨xs, x, hq, hx⟩ := hg
    obtain ⟨its, rv, p, hz⟩ := I.tuple hq
    obtain ⟨u, hu, ru⟩ := rv.get hx
    have hel : e < s.heap.objs.size := Heap.lt_size he
    have hil : it < s.heap.objs.size := by obtain ⟨_, q, _⟩ := hit; exact Heap.lt_size q
    have hlt : i < its.toArray.size := by
      have := (List.getElem?_eq_some_iff.mp hu).1
      simpa using this
    refine PySem.wpAny_pyNext_enum_itemD (PySem.Draws.tuple (A := X.A.in1) (I.ok.hd hc) it a hai its.toArray) he ⟨hit, p⟩ hlt hne (by simp [hne, Ne.symm hae]) fun y h' tk hy ho hit' hT hsz hk => ?_
    have ey : y = u := by
      have h2 : its[i]? = some y := by simpa using hy
      rw [hu] at h2
      exact (Option.some.inj h2).symm
    subst ey
    obtain ⟨hit', _⟩ := hit'
    refine ⟨_, rfl, wpAny_letOwnedTupleGo_enum (s := { s with heap := h', toks := tk + 1 }) ho fun h'' he' sb => ?_⟩
    have hT2 : h''.get? s.heap.objs.size = some { cls := .type "tuple", data := .seq #[.int i tk, y] } := (sb.2 _ (Nat.ne_of_gt hel)).trans hT
    have new : ObjOk X.prog X.w (upd H s.heap.objs.size (.tup [.int (i : Nat), x])) h'' s.heap.objs.size (.tup [.int (i : Nat), x]) :=
      ⟨by show 2 ≤ sizeLine; decide, [.int i tk, y], .cons ⟨_, rfl⟩ (.cons ru .nil), ⟨_, hT2, rfl, _, rfl⟩⟩
    have I1 : Inv X pins σ (upd H s.heap.objs.size (.tup [.int (i : Nat), x])) { s with heap := h'', toks := tk + 1 } :=
      I.turnedNew (ch := [e, it]) (fun b ob hb q => (sb.2 b (fun z => hb (by simp [z]))).trans (hk b ob (fun z => hb (by simp [z])) (fun z => hb (by simp [z])) q)) hf (Nat.le_refl _) new
    refine ⟨.ref s.heap.objs.size, _, I1, rfl, ⟨_, x, rfl, I.hok.fresh (Nat.le_refl _), rfl, fun ys hy => by rw [I.tuple_inj hy hq]; exact hx⟩, ⟨⟨y, ?_⟩, hit'.at fun o q => (sb.2 it (Ne.symm hne)).trans q, hne⟩, fun b hb => ?_⟩
    · have e1 : ((i + 1 : Nat) : Int) = (i : Int) + 1 := by omega
      rw [e1]; exact he'
    · have hb' : b < s.heap.objs.size := by
        have e' : b = e ∨ b = it := by simpa using hb
        rcases e' with z | z
        · rw [z]; exact hel
        · rw [z]; exact hil
      rw [upd_ne (Nat.ne_of_lt hb')]
      exact (hf b hb).1
  done := by
    intro X hP hw hK hc i pins s σ H E I hf st hg
    subst hP hw hK
    obtain ⟨⟨old, he⟩, hit, hne⟩ := st
    obtain ⟨xs, hq, hx⟩ := hg
    obtain ⟨its, rv, p, hz⟩ := I.tuple hq
    obtain ⟨f0, f1, f2, f3, f4, f5⟩ := hf it (by simp)
    have hl := rv.length
    have hn : its.toArray[i]? = none := by simp; omega
    unfold pyNext
    have hT : s.TypeIs (.ref e) "enumerate" := ⟨_, he, rfl⟩
    refine wpAny_bind (wpAny_attempt (wpAny_callSpecial?_slot (name := Str.ofString "__next__") hT F.slot_enumerate_next
      (wpAny_call_entry F.slot_enumerate_next hT F.entry_enumerate_next ?_ (F.args_enumerate_next_1 _))))
    show wpAny _ _ (field (.ref e) 2 >>= _) _ _ _
    refine wpAny_bind (wpAny_field he rfl (x := .ref it) rfl ?_)
    refine wpAny_bind (wpAny_nextOf_tuple_end (I.ok.hd hc) hit p hn fun h' x he' hx' => ?_)
    obtain ⟨o, ho, hcc⟩ := hx'
    refine wpAny_bind (wpAny_isInstance (T := "StopIteration") (b := true) ⟨o, ho, hcc⟩ isSubtype_stop ?_)
    exact wpAny_pure ⟨rfl, I.turned (t' := s.toks) (fun b o hb q => he' b o hb q) f0 f1 f3 f4 f5⟩
  self := fun A i s Q E st h => let ⟨⟨_, he⟩, _⟩ := st; wpAny_pyIter_enum he h
def iEnumT (K : PySem.W.Frag) (ta : TA) : TI := fun σ H R => ta σ H fun vs H1 => ∃ a xs, vs = [.ref a] ∧ SqT K H1 a xs ∧ R (IteT K a) H1
open PyProof.Rows in
theorem pi_enumT {X : Cx} {e : Expr} {ta : TA} {p pos tpos : Pos} {elts : List Expr} {kk : Nat} (hg : Gl X "enumerate") (hm : X.mg "enumerate" = none) (ha : PA X [e] ta) (hs : starEach [e] X.env = [(false, eval e X.env)] := by rfl) :
    PI X (.Tuple elts kk tpos) (.Call (.Name "enumerate" p) [e] [] pos) (iEnumT X.K ta) := by
  refine ⟨fun pins s σ H R I h => ?_⟩
  refine Call_ (ld_blt I hg hm boot_enumerate (PyProof.Rows.callWith_type1 (thn (ha.run pos pins s σ H _ I h) fun us s1 ⟨vs, H1, I1, r1, q1⟩ => ?_) hs rfl))
  obtain ⟨a, xs, ex, hq, q⟩ := q1
  subst ex
  cases r1 with
  | cons r rr =>
    cases rr
    cases r
    obtain ⟨its, rv, p', hz⟩ := I1.tuple hq
    have hal : a < s1.heap.objs.size := by obtain ⟨_, z, _⟩ := p'; exact Heap.lt_size z
    refine PySem.HSE.call_enumerate_tuple p' fun h' he hit hsz hk => wpAny_pyIter_enum he ?_
    have I2 : Inv X pins σ H1 { s1 with heap := h' } := I1.kept (t' := s1.toks) hk
    refine ⟨s1.heap.objs.size + 1, [s1.heap.objs.size + 1, s1.heap.objs.size], _, _, H1, rfl, I2, turn_enumT a (s1.heap.objs.size + 1) s1.heap.objs.size (Nat.ne_of_lt hal) (Nat.ne_of_lt (Nat.lt_succ_of_lt hal)), ⟨⟨.none, he⟩, hit, Nat.succ_ne_self _⟩, fun b hb => ?_, q⟩
    have e' : b = s1.heap.objs.size + 1 ∨ b = s1.heap.objs.size := by simpa using hb
    have hle : s1.heap.objs.size ≤ b := by
      rcases e' with z | z
      · rw [z]; exact Nat.le_add_right _ _
      · rw [z]; exact Nat.le_refl _
    exact I1.fpOk hle (I1.hok.fresh hle)
theorem walk_enumT {K : PySem.W.Frag} {a : Addr} {xs : List V} : Walk (IteT K a) xs.length (fun H => SqT K H a xs) (YPair (fun i => some (.int (i : Nat))) (fun i => xs[i]?)) := by
  refine ⟨fun i _ hi q => ⟨xs, xs[i], q, by simp [hi]⟩, fun _ q => ⟨xs, q, Nat.le_refl _⟩, fun i H v H' _ q y => ?_⟩
  obtain ⟨T, x, h1, h2, h3, h4⟩ := y
  exact ⟨T, .int (i : Nat), x, h1, h2, h3, rfl, h4 xs q⟩
theorem PI.or {X : Cx} {tg it : Expr} {w1 w2 : TI} (a : PI X tg it w1) (b : PI X tg it w2) : PI X tg it (fun σ H R => w1 σ H R ∨ w2 σ H R) :=
  ⟨fun pins s σ H R I h => h.elim (fun h => a.run pins s σ H R I h) fun h => b.run pins s σ H R I h⟩
end HS

set_option maxHeartbeats 4000000
namespace HS
open PySem PySem.Spec L2
/-! ### sequences handed in: lists and tuples -/
def SeqV (K : PySem.W.Frag) (H : Hp) (a : Addr) (xs : List V) : Prop := SqL K H a xs ∨ SqT K H a xs
theorem SqT.same {K : PySem.W.Frag} {H H' : Hp} {a : Addr} {xs : List V} (e : Same H H') (h : SqT K H a xs) : SqT K H' a xs := by
  rcases h with (h | ⟨o, h⟩) | h
  · exact .inl (.inl (e _ _ h))
  · exact .inl (.inr ⟨o, e _ _ h⟩)
  · exact .inr h
theorem SeqV.same {K : PySem.W.Frag} {H H' : Hp} {a : Addr} {xs : List V} (e : Same H H') (h : SeqV K H a xs) : SeqV K H' a xs := h.elim (fun h => .inl (e.seq h)) fun h => .inr (SqT.same e h)
theorem SeqV.ty {K : PySem.W.Frag} {H : Hp} {a : Addr} {xs : List V} (h : SeqV K H a xs) : ∃ k, TyK K H (.ref a) k ∧ isLT k = true := h.elim (fun h => ⟨.lst, TyK.seqL h, rfl⟩) fun h => ⟨.tup, TyK.seqT h, rfl⟩
theorem TyK.not_str {K : PySem.W.Frag} {H : Hp} {z : Str} {k : Kn} (h : TyK K H (.str z) k) : k = .str := by
  cases h with
  | x h =>
    generalize hT : Value.type k.nm = T at h
    cases h with
    | base b =>
      cases b
      cases k <;> simp [Kn.nm] at hT ⊢
theorem TyK.not_int {K : PySem.W.Frag} {H : Hp} {z : Int} {k : Kn} (h : TyK K H (.int z) k) : k = .int := by
  cases h with
  | x h =>
    generalize hT : Value.type k.nm = T at h
    cases h with
    | base b =>
      cases b
      cases k <;> simp [Kn.nm] at hT ⊢
theorem TyK.int_of {K : PySem.W.Frag} {H : Hp} {x : V} (h : TyK K H x .int) : ∃ i, x = .int i := by
  cases h with
  | x h =>
    have e : Value.type Kn.int.nm = Value.type "int" := rfl
    rw [e] at h
    generalize hT : Value.type "int" = T at h
    cases h with
    | base b => cases b <;> first | exact ⟨_, rfl⟩ | (simp at hT)
    | _ => simp at hT
def knownB (kvs : List (Key × V)) : V → Bool
  | .str z => (valV kvs (.inr z)).isSome
  | _ => false
theorem knownB_not {K : PySem.W.Frag} {H : Hp} {kvs : List (Key × V)} {x : V} {k : Kn} (h : TyK K H x k) (hk : k ≠ .str) : knownB kvs x = false := by
  cases x with
  | str z => exact absurd h.not_str hk
  | _ => rfl
/-- is_pair_of -/
inductive IPO (K : PySem.W.Frag) (H : Hp) (kvs : List (Key × V)) : V → Bool → Prop where
  | no {v : V} {k : Kn} (t : TyK K H v k) (h : isLT k = false) : IPO K H kvs v false
  | len {a : Addr} {xs : List V} (h : SeqV K H a xs) (n : xs.length ≠ 2) : IPO K H kvs (.ref a) false
  | two {a : Addr} {x y : V} {k l : Kn} (h : SeqV K H a [x, y]) (t1 : TyK K H x k) (t2 : TyK K H y l) : IPO K H kvs (.ref a) (knownB kvs x && knownB kvs y)
section
variable {P : Program} {w : World} {K : PySem.W.Frag} {mg : Str → Option Value} {base : Heap} {D : Ads}
def sp_is_one_of (K : PySem.W.Frag) : Sp := fun vs H Q _ => ∃ d kvs x k, vs = [.ref d, x] ∧ H d = some (.dK kvs) ∧ TyK K H x k ∧ Q (.bl (knownB kvs x)) H
theorem sc_is_one_of : FnScope ["known", "thing"] ["known", "thing"] (defScope s_is_one_of) := ⟨rfl, rfl, rfl, by decide +kernel, rfl, by decide +kernel, by decide +kernel⟩
theorem ok_is_one_of (T : Txt K mg D) : FnOk P w K mg base CX0 1 D.a_is_one_of D.d_is_one_of ["known", "thing"] (sp_is_one_of K) := by
  refine T.F_is_one_of.ok sc_is_one_of (fun vs H Q E h => ?_) (fun cdv A outer s H vs Q E hr h => ?_)
  · obtain ⟨d, kvs, x, k, rfl, _⟩ := h
    rfl
  · obtain ⟨d, kvs, x, k, rfl, hd, ty, q⟩ := h
    have hu := hu_of hr
    refine ⟨_, pss_one (ps_ret (pe_and (pe_callB call_isK (by rfl) T.z_isinstance boot_isinstance (pa_cons (pv 1) (pa_cons (pe_bltn (by rfl) T.z_str boot_str' (v := .ty "str") rfl) pa_nil)))
      (pe_one (pe_cmp (pc_din hu (pv 1) (pv 0)) rfl)))), ?_⟩
    refine ⟨_, rfl, x, _, k, _, rfl, ty, kb_str k, _, rfl, ?_⟩
    refine ite2 (fun c => ?_) (fun c => ?_)
    · have hk := of_decide_eq_true c
      subst hk
      obtain ⟨z, rfl⟩ := ty.str_of
      exact ⟨_, rfl, _, rfl, d, _, rfl, DGet.k (k := Sum.inr z) hd, q⟩
    · have hk : k ≠ .str := fun e => c (decide_eq_true e)
      rw [knownB_not ty hk] at q
      exact q
def sp_is_pair_of (K : PySem.W.Frag) : Sp := fun vs H Q _ => ∃ d kvs x o, vs = [.ref d, x] ∧ H d = some (.dK kvs) ∧ IPO K H kvs x o ∧ ∀ H', Same H H' → Q (.bl o) H'
theorem sc_is_pair_of : FnScope ["known", "thing", "part"] ["known", "thing"] (defScope s_is_pair_of) := ⟨rfl, rfl, rfl, by decide +kernel, rfl, by decide +kernel, by decide +kernel⟩
theorem ok_is_pair_of (T : Txt K mg D) : FnOk P w K mg base CX0 2 D.a_is_pair_of D.d_is_pair_of ["known", "thing"] (sp_is_pair_of K) := by
  have G1 : FnOk P w K mg base CX0 1 D.a_is_list D.d_is_list ["thing"] (sp_is_list K) := ok_is_list T
  have G2 : FnOk P w K mg base CX0 1 D.a_is_one_of D.d_is_one_of ["known", "thing"] (sp_is_one_of K) := ok_is_one_of T
  refine T.F_is_pair_of.ok sc_is_pair_of (fun vs H Q E h => ?_) (fun cdv A outer s H vs Q E hr h => ?_)
  · obtain ⟨d, kvs, x, o, rfl, _⟩ := h
    rfl
  · obtain ⟨d, kvs, x, o, rfl, hd, ip, q⟩ := h
    have hu := hu_of hr
    refine ⟨_, pss_one (ps_ret (pe_and (pe_call G1 hr rfl T.g_is_list T.F_is_list.kp T.b_is_list .nil pass0 (pa_cons (pv 1) pa_nil))
      (pe_and (pe_cmpR op_eq (pe_callB call_len_seq (by rfl) T.z_len PySem.boot_len (pa_cons (pv 1) pa_nil)) pe_int (nomark _))
      (pe_one (pe_callB (cr_all rfl) (by rfl) T.z_all boot_all' (pa_cons (pe_lc (own := [("part", 2)]) (g := gName 2) (tt := tYes) rfl sc_is_pair_of.nd (PI.or (pi_list (pv 1)) (pi_tup (pv 1))) (blkOk_by (N := ["known", "thing", "part"]) (sc := defScope s_is_pair_of) (by decide +kernel))
          (fun _ _ _ _ _ => pg_name (i := 2) sc_is_pair_of.nd rfl (Or.inl rfl)) (fun _ _ _ _ _ => pts_nil) (fun _ _ _ _ _ => pe_call G2 hr rfl T.g_is_one_of T.F_is_one_of.kp T.b_is_one_of .nil pass0 (pa_cons (pv 0) (pa_cons (pv 2) pa_nil)))) pa_nil)))))), ?_⟩
    have sH : ∀ H1, Same H H1 → H1 d = some (.dK kvs) := fun H1 s1 => s1 _ _ hd
    cases ip with
    | @no v k t h =>
      refine ⟨_, rfl, _, k, rfl, t, fun H1 s1 => ⟨_, rfl, ?_⟩⟩
      rw [h]
      exact iteF (q H1 s1)
    | @len a xs h n =>
      obtain ⟨k, t, e⟩ := h.ty
      refine ⟨_, rfl, _, k, rfl, t, fun H1 s1 => ⟨_, rfl, ?_⟩⟩
      rw [e]
      refine iteT ⟨_, rfl, a, xs, rfl, h.same s1, rfl, _, rfl, ?_⟩
      rw [decide_eq_false (fun z => n (by have := V.int.inj z; omega))]
      exact iteF (q H1 s1)
    | @two a u v k l h t1 t2 =>
      obtain ⟨k0, t, e⟩ := h.ty
      refine ⟨_, rfl, _, k0, rfl, t, fun H1 s1 => ⟨_, rfl, ?_⟩⟩
      rw [e]
      refine iteT ⟨_, rfl, a, [u, v], rfl, h.same s1, rfl, _, rfl, iteT ?_⟩
      have h1 := h.same s1
      have fin : ∀ (Dd : Addr) (H2 : Hp), Same H1 H2 → H2 Dd = some (.lst (((List.range 2).filter (fun _ => true)).map fun i => V.bl (knownB kvs (([u, v] : List V).getD i .non)))) →
          ∃ (a : Addr) (bs : List Bool), ([V.ref Dd] : List V) = [V.ref a] ∧ SqL K H2 a (bs.map V.bl) ∧ Q (.bl (bs.all id)) H2 := fun Dd H2 s2 e2 => by
        refine ⟨Dd, [knownB kvs u, knownB kvs v], rfl, SqL.of e2, ?_⟩
        have q' := q H2 (s1.trans s2)
        simpa using q'
      have turn : ∀ (i : Nat) (x : V) (H2 : Hp), Same H1 H2 → ([u, v] : List V)[i]? = some x → ∃ d2 kvs2 x2 k2, ([V.ref d, x] : List V) = [.ref d2, x2] ∧ H2 d2 = some (.dK kvs2) ∧ TyK K H2 x2 k2 ∧ (V.bl (knownB kvs2 x2) = V.bl (knownB kvs (([u, v] : List V).getD i .non)) ∧ Same H2 H2) := fun i x H2 s2 hx => by
        have s3 := s1.trans s2
        match i, hx with
        | 0, hx =>
          have e0 : u = x := Option.some.inj hx
          subst e0
          exact ⟨d, kvs, _, k, rfl, s3 _ _ hd, t1.ext s3, rfl, Same.refl _⟩
        | 1, hx =>
          have e0 : v = x := Option.some.inj hx
          subst e0
          exact ⟨d, kvs, _, l, rfl, s3 _ _ hd, t2.ext s3, rfl, Same.refl _⟩
        | n + 2, hx => simp at hx
      rcases h1 with hl | ht
      · refine .inl ⟨_, rfl, a, rfl, ⟨_, hl⟩, fun Dd hD => ?_⟩
        refine lc_grow (walk_list (xs := [u, v])) (fun _ => true) (fun i => V.bl (knownB kvs (([u, v] : List V).getD i .non))) hD (by show 2 ≤ 1000000; decide) (fun H2 s2 => s2.seq hl) (fun i x H2 H3 hi s2 y => ?_) (fun _ _ _ _ _ h z => h _ _ z) (fun _ _ _ _ h z => h _ _ z) (fun _ _ _ _ h z => ?_) fun H2 s2 e2 => fin Dd H2 s2 e2
        · obtain ⟨rfl, hx⟩ := y
          exact ⟨rfl, rfl, iteT ⟨_, rfl, _, rfl, turn i x _ s2 hx⟩⟩
        · obtain ⟨v1, h1, v2, h2, d2, kvs2, x2, k2, h3, h4, h5, h6⟩ := z
          exact ⟨v1, h1, v2, h2, d2, kvs2, x2, k2, h3, h4, h5, h _ _ h6⟩
      · refine .inr ⟨_, rfl, a, rfl, ⟨_, ht⟩, fun Dd hD => ?_⟩
        refine lc_grow (walk_tup (xs := [u, v])) (fun _ => true) (fun i => V.bl (knownB kvs (([u, v] : List V).getD i .non))) hD (by show 2 ≤ 1000000; decide) (fun H2 s2 => SqT.same s2 ht) (fun i x H2 H3 hi s2 y => ?_) (fun _ _ _ _ _ h z => h _ _ z) (fun _ _ _ _ h z => h _ _ z) (fun _ _ _ _ h z => ?_) fun H2 s2 e2 => fin Dd H2 s2 e2
        · obtain ⟨rfl, hx⟩ := y
          exact ⟨rfl, rfl, iteT ⟨_, rfl, _, rfl, turn i x _ s2 hx⟩⟩
        · obtain ⟨v1, h1, v2, h2, d2, kvs2, x2, k2, h3, h4, h5, h6⟩ := z
          exact ⟨v1, h1, v2, h2, d2, kvs2, x2, k2, h3, h4, h5, h _ _ h6⟩
end
end HS

set_option maxHeartbeats 4000000
namespace HS
open PySem PySem.Spec L2
/-! ### first_bad_name -/
def Good (ns : List Str) : Prop := (∀ z ∈ ns, nameB z = true ∧ z.length ≤ 1000) ∧ ns.Nodup
def BadNm (K : PySem.W.Frag) (H : Hp) (ns : List Str) (b : V) : Prop := ∃ k, TyK K H b k ∧ (k ≠ .str ∨ ∃ z, b = .str z ∧ z.length ≤ 1000 ∧ (nameB z = false ∨ z ∈ ns))
inductive FBN (K : PySem.W.Frag) (H : Hp) : V → V → Prop where
  | no {v : V} {k : Kn} (t : TyK K H v k) (h : isLT k = false) : FBN K H v (.int 0)
  | nil {a : Addr} (h : SeqV K H a []) : FBN K H (.ref a) (.int 0)
  | ok {a : Addr} {ns : List Str} (h : SeqV K H a (ns.map V.str)) (n : ns ≠ []) (l : ns.length ≤ 1000) (g : Good ns) : FBN K H (.ref a) .non
  | bad {a : Addr} {ns : List Str} {b : V} {r : List V} (h : SeqV K H a (ns.map V.str ++ b :: r)) (l : ns.length ≤ 1000) (g : Good ns) (n : BadNm K H ns b) : FBN K H (.ref a) (.int ns.length)
def kvN (ns : List Str) : List (Key × V) := ns.map fun z => (Sum.inr z, V.bl true)
theorem kvN_keys (ns : List Str) : (kvN ns).map (·.1) = ns.map Sum.inr := by simp [kvN, List.map_map, Function.comp_def]
theorem kvN_get (ns : List Str) (z : Str) : (valV (kvN ns) (.inr z)).isSome = decide (z ∈ ns) := by
  rw [← valV_any]
  unfold kvN
  rw [List.any_map]
  induction ns with
  | nil => rfl
  | cons a r ih =>
    rw [List.any_cons, ih]
    by_cases e : a = z
    · subst e; simp
    · have e2 : ¬ z = a := fun q => e q.symm
      simp [e, e2]
theorem kvN_none {ns : List Str} {z : Str} (h : z ∉ ns) : valV (kvN ns) (.inr z) = none := by
  have := kvN_get ns z
  rw [decide_eq_false h] at this
  cases e : valV (kvN ns) (.inr z) with
  | none => rfl
  | some v => rw [e] at this; cases this
theorem kvN_snoc (ns : List Str) (z : Str) (h : z ∉ ns) : putK (kvN ns) (.inr z) (.bl true) = kvN (ns ++ [z]) := by
  rw [putK_new _ (kvN_none h)]
  simp [kvN]
theorem take_snoc {α : Type} {l : List α} {i : Nat} {x : α} (h : l[i]? = some x) : l.take (i + 1) = l.take i ++ [x] := by
  rw [List.take_succ, h]; rfl
/-- enumerate over a list or tuple -/
def iEnS (K : PySem.W.Frag) (ta : TA) : TI := fun σ H R => iEnum K ta σ H R ∨ iEnumT K ta σ H R
theorem pi_enS {X : Cx} {e : Expr} {ta : TA} {p pos tpos : Pos} {elts : List Expr} {kk : Nat} (hg : Gl X "enumerate") (hm : X.mg "enumerate" = none) (ha : PA X [e] ta) (hs : starEach [e] X.env = [(false, eval e X.env)] := by rfl) :
    PI X (.Tuple elts kk tpos) (.Call (.Name "enumerate" p) [e] [] pos) (iEnS X.K ta) := PI.or (pi_enum hg hm ha hs) (pi_enumT hg hm ha hs)
/-- a for over enumerate of a list or tuple that stands -/
theorem for_enS {K : PySem.W.Frag} {a : Addr} {xs : List V} {g : TG} {tb : TS} {Dn : Ends} {σ : L2.St} {H0 H : Hp} {i0 : Nat} (hi0 : σ[i0]? = some (some (.ref a))) (h : SeqV K H0 a xs) (Pv : Nat → L2.St → Hp → Prop) (h0 : Pv 0 σ H) (hG : ∀ i σ' H', i ≤ xs.length → Pv i σ' H' → Same H0 H')
    (hs : ∀ i x T σ' H', xs[i]? = some x → Pv i σ' H' → H' T = none → g (.ref T) σ' (upd H' T (.tup [.int (i : Nat), x])) fun σ2 H2 => tb { Dn with nx := Pv (i + 1), ct := Pv (i + 1), bk := Dn.nx } σ2 H2) (hd : ∀ σ' H', Pv xs.length σ' H' → Dn.nx σ' H') :
    tFor (iEnS K (tCons (tVar i0) tNil)) g tb Dn σ H := by
  have h' := h.same (hG 0 _ _ (Nat.zero_le _) h0)
  rcases h with h | h
  · refine .inl ⟨_, hi0, a, xs, rfl, (hG 0 _ _ (Nat.zero_le _) h0).seq h, ?_⟩
    exact for_it walk_enum Pv h0 (fun i σ' H' hi p => (hG i σ' H' hi p).seq h) (fun i x σ' H' H'' hi p y => by
      obtain ⟨T, u, v, rfl, hT, rfl, e1, e2⟩ := y
      cases e1
      exact hs i v T σ' H' e2 p hT) hd
  · refine .inr ⟨_, hi0, a, xs, rfl, SqT.same (hG 0 _ _ (Nat.zero_le _) h0) h, ?_⟩
    exact for_it walk_enumT Pv h0 (fun i σ' H' hi p => SqT.same (hG i σ' H' hi p) h) (fun i x σ' H' H'' hi p y => by
      obtain ⟨T, u, v, rfl, hT, rfl, e1, e2⟩ := y
      cases e1
      exact hs i v T σ' H' e2 p hT) hd
theorem FBN.view {K : PySem.W.Frag} {H : Hp} {v o : V} (h : FBN K H v o) : (∃ k, TyK K H v k ∧ isLT k = false ∧ o = .int 0) ∨ (∃ a, v = .ref a ∧ SeqV K H a [] ∧ o = .int 0) ∨
    ∃ a ns tl, v = .ref a ∧ SeqV K H a (ns.map V.str ++ tl) ∧ 0 < (ns.map V.str ++ tl).length ∧ ns.length ≤ 1000 ∧ Good ns ∧ (tl = [] → o = .non) ∧ ∀ b r, tl = b :: r → BadNm K H ns b ∧ o = .int ns.length := by
  cases h with
  | no t h => exact .inl ⟨_, t, h, rfl⟩
  | nil h => exact .inr (.inl ⟨_, rfl, h, rfl⟩)
  | @ok a ns h n l g =>
    refine .inr (.inr ⟨a, ns, [], rfl, by simpa using h, ?_, l, g, fun _ => rfl, fun b r e => (nomatch e)⟩)
    cases ns with
    | nil => exact absurd rfl n
    | cons z r => simp
  | @bad a ns b r h l g n =>
    refine .inr (.inr ⟨a, ns, b :: r, rfl, h, by simp; omega, l, g, (fun e => (nomatch e)), fun b' r' e => ?_⟩)
    cases e
    exact ⟨n, rfl⟩
theorem BadNm.same {K : PySem.W.Frag} {H H' : Hp} {ns : List Str} {b : V} (s : Same H H') (h : BadNm K H ns b) : BadNm K H' ns b := let ⟨k, t, r⟩ := h; ⟨k, t.ext s, r⟩
theorem same_upd {H H' : Hp} {d : Addr} {o : HO} (s : Same H H') (hd : H d = none) : Same H (upd H' d o) := fun b u e => by rw [upd_ne (ne_of_none e hd)]; exact s _ _ e
theorem same_none {H H' : Hp} {d : Addr} (s : Same H H') (hd : H' d = none) : H d = none := s.free hd
section
variable {P : Program} {w : World} {K : PySem.W.Frag} {mg : Str → Option Value} {base : Heap} {D : Ads}
def sp_first_bad_name (K : PySem.W.Frag) : Sp := fun vs H Q _ => ∃ v o, vs = [v] ∧ FBN K H v o ∧ ∀ H', Same H H' → Q o H'
theorem sc_first_bad_name : FnScope ["people", "stood", "index", "name"] ["people"] (defScope s_first_bad_name) := ⟨rfl, rfl, rfl, by decide +kernel, rfl, by decide +kernel, by decide +kernel⟩
theorem ok_first_bad_name (T : Txt K mg D) : FnOk P w K mg base CX0 2 D.a_first_bad_name D.d_first_bad_name ["people"] (sp_first_bad_name K) := by
  have G1 : FnOk P w K mg base CX0 1 D.a_is_list D.d_is_list ["thing"] (sp_is_list K) := ok_is_list T
  have G2 : FnOk P w K mg base CX0 1 D.a_is_name D.d_is_name ["thing"] (sp_is_name K) := ok_is_name T
  have sc := sc_first_bad_name
  refine T.F_first_bad_name.ok sc_first_bad_name (fun vs H Q E h => ?_) (fun cdv A outer s H vs Q E hr h => ?_)
  · obtain ⟨v, o, rfl, _⟩ := h
    rfl
  · obtain ⟨v, o, rfl, fb, q⟩ := h
    have hu := hu_of hr
    refine ⟨_, pss_cons (ps_if (PW.pt (pw_or (pt_not (pt_val (pe_call G1 hr rfl T.g_is_list T.F_is_list.kp T.b_is_list .nil pass0 (pa_cons (pv 0) pa_nil))))
        (pw_or1 (pt_cmpR op_eq (pe_callB call_len_seq (by rfl) T.z_len PySem.boot_len (pa_cons (pv 0) pa_nil)) pe_int (nomark _))))) (pss_one (ps_ret pe_int)) pss_nil)
      (pss_cons (ps_set (i := 1) sc_first_bad_name.nd rfl (Or.inl rfl) pe_dnewK)
      (pss_cons (ps_for PassesOwn.never rfl (pi_enS (by rfl) T.z_enumerate (pa_cons (pv 0) pa_nil)) (pg_tup (by rfl) (pgs_cons (pg_name (i := 2) sc_first_bad_name.nd rfl (Or.inl rfl)) (pgs_cons (pg_name (i := 3) sc_first_bad_name.nd rfl (Or.inl rfl)) pgs_nil)))
        (pss_cons (ps_if (PW.pt (pw_or (pt_not (pt_val (pe_call G2 hr rfl T.g_is_name T.F_is_name.kp T.b_is_name .nil pass0 (pa_cons (pv 3) pa_nil)))) (pw_or1 (pt_cmp (pc_din hu (pv 3) (pv 1)))))) (pss_one (ps_ret (pv 2))) pss_nil)
          (pss_one (ps_dput hu (pv 1) (pv 3) pe_bl rfl))))
      (pss_one (ps_ret pe_non)))), ?_⟩
    rcases fb.view with ⟨k, t, hk, rfl⟩ | ⟨a, rfl, hs, rfl⟩ | ⟨a, ns, tl, rfl, hs, hpos, hl, hg, qn, qb⟩
    · refine ⟨_, rfl, _, k, rfl, t, fun H1 s1 => ⟨_, rfl, ?_⟩⟩
      rw [hk]
      exact iteT (q H1 s1)
    · obtain ⟨k, t, e⟩ := hs.ty
      refine ⟨_, rfl, _, k, rfl, t, fun H1 s1 => ⟨_, rfl, ?_⟩⟩
      rw [e]
      exact iteF ⟨_, rfl, a, [], rfl, hs.same s1, rfl, _, rfl, iteT (q H1 s1)⟩
    · obtain ⟨k, t, e⟩ := hs.ty
      refine ⟨_, rfl, _, k, rfl, t, fun H1 s1 => ⟨_, rfl, ?_⟩⟩
      rw [e]
      refine iteF ⟨_, rfl, a, _, rfl, hs.same s1, rfl, _, rfl, ?_⟩
      rw [decide_eq_false (fun z => by have := V.int.inj z; omega)]
      refine iteF fun d hd => ?_
      refine for_enS (xs := ns.map V.str ++ tl) rfl hs (fun i σ H' => i ≤ ns.length ∧ Same H1 H' ∧ H' d = some (.dK (kvN (ns.take i))) ∧ ∃ v2 v3, σ = [some (.ref a), some (.ref d), v2, v3]) ⟨Nat.zero_le _, same_new hd, upd_same, none, none, rfl⟩ (fun i σ' H' _ p => s1.trans p.2.1) ?_ ?_
      · rintro i x Tt σ' H' hx ⟨hi, s2, hdd, v2, v3, rfl⟩ hT
        refine ⟨Tt, _, rfl, SqT.of upd_same, rfl, _, _, rfl, _, _, rfl, rfl, ?_⟩
        have s3 : Same H' (upd H' Tt (.tup [.int (i : Nat), x])) := same_new hT
        have hd3 := s3 _ _ hdd
        have sH3 : Same H (upd H' Tt (.tup [.int (i : Nat), x])) := (s1.trans s2).trans s3
        by_cases hin : i < ns.length
        · obtain ⟨z, hz⟩ : ∃ z, ns[i]? = some z := ⟨ns[i], by simp [hin]⟩
          have ex : x = .str z := by
            rw [List.getElem?_append_left (by simpa using hin), List.getElem?_map, hz] at hx
            exact (Option.some.inj hx).symm
          subst ex
          have hzm : z ∈ ns := List.mem_of_getElem? hz
          obtain ⟨nb, lz⟩ := hg.1 z hzm
          have nin : z ∉ ns.take i := fun m => by
            obtain ⟨j, hj, ej⟩ := List.mem_iff_getElem.mp m
            have hji : j < i := by rw [List.length_take] at hj; omega
            have e1 : ns[j]? = some z := by
              rw [List.getElem_take] at ej
              rw [← ej]; simp
            have := L2.nd_ix hg.2 e1 hz
            omega
          refine ⟨_, rfl, _, .str, rfl, TyK.str z, fun z' ez => ?_, fun h => absurd rfl h⟩
          cases ez
          refine ⟨lz, fun H4 s4 => ⟨_, rfl, ?_⟩⟩
          rw [nb]
          refine iteF ⟨_, rfl, _, rfl, d, _, rfl, DGet.k (k := Sum.inr z) (s4 _ _ hd3), _, rfl, ?_⟩
          rw [kvN_none nin]
          refine iteF ⟨_, rfl, _, rfl, d, _, rfl, DPut.k (k := Sum.inr z) (s4 _ _ hd3) ?_, ?_⟩
          · have : (kvN (ns.take i)).length = i := by simp [kvN]; omega
            rw [this]
            exact small1000 (by omega)
          · refine ⟨hin, ?_, ?_, _, _, rfl⟩
            · exact same_upd ((s2.trans s3).trans s4) hd
            · rw [upd_same, kvN_snoc _ _ nin, take_snoc hz]
        · have ein : i = ns.length := by omega
          subst ein
          rw [List.getElem?_append_right (by simp)] at hx
          simp only [List.length_map, Nat.sub_self] at hx
          obtain ⟨r, etl⟩ : ∃ r, tl = x :: r := by
            cases tl with
            | nil => simp at hx
            | cons y r => exact ⟨r, by simp at hx; rw [hx]⟩
          obtain ⟨bad, eo⟩ := qb x r etl
          obtain ⟨k2, t2, hb⟩ := bad.same sH3
          subst eo
          refine ⟨_, rfl, _, k2, rfl, t2, fun z ez => ?_, fun hk2 => ?_⟩
          · subst ez
            have hk2 := t2.not_str
            rcases hb with hb | ⟨z', ez', lz, hb⟩
            · exact absurd hk2 hb
            · cases ez'
              refine ⟨lz, fun H4 s4 => ⟨_, rfl, ?_⟩⟩
              rcases hb with hb | hb
              · rw [hb]
                exact iteT ⟨_, rfl, q _ (sH3.trans s4)⟩
              · have nb := (hg.1 z hb).1
                rw [nb]
                refine iteF ⟨_, rfl, _, rfl, d, _, rfl, DGet.k (k := Sum.inr z) (s4 _ _ hd3), _, rfl, ?_⟩
                rw [kvN_get, List.take_length, decide_eq_true hb]
                exact iteT ⟨_, rfl, q _ (sH3.trans s4)⟩
          · exact ⟨_, rfl, iteT ⟨_, rfl, q _ sH3⟩⟩
      · rintro σ' H' ⟨hi, s2, hdd, v2, v3, rfl⟩
        rw [List.length_append, List.length_map] at hi
        have e0 : tl = [] := List.length_eq_zero_iff.mp (by omega)
        have eo := qn e0
        subst eo
        exact q _ (s1.trans s2)
end
end HS

set_option maxHeartbeats 4000000
namespace HS
open PySem PySem.Spec L2
section
variable {X : Cx}
open PyProof.Rows in
/-- name = {..} on one line, the name a local -/
theorem ps_setDc {i : Nat} {y : Str} {py : Pos} {kx vx tg iter : Expr} {ifs : List Expr} {scope : Scope} {own : List (Str × Nat)} {pos spos : Pos} {wi : TI} {g : TG} {tt : TT} {tk tv : TE} (hc : X.calm = true) (hN : X.N.Nodup) (hy : X.N[i]? = some y) (hyl : X.env.scope.names.lookup y = some .local)
    (hsw : swapsWith (.DictComp kx vx [⟨tg, iter, ifs, 0⟩] scope pos) (some (.Name y py)) spos.line X.env = pure true) (hi : PI X tg iter wi) (ok : BlkOk X.N X.env.scope scope own)
    (hg : ∀ (s : Shared) (H : Hp) (C : Addr) (cl : List (Str × Addr)) (fp : List Addr), PG (X.blk s H scope (compEnvC scope cl C X.env) fp) tg g) (ht : ∀ (s : Shared) (H : Hp) (C : Addr) (cl : List (Str × Addr)) (fp : List Addr), PTs (X.blk s H scope (compEnvC scope cl C X.env) fp) ifs tt)
    (hk : ∀ (s : Shared) (H : Hp) (C : Addr) (cl : List (Str × Addr)) (fp : List Addr), PE (X.blk s H scope (compEnvC scope cl C X.env) fp) kx tk)
    (he : ∀ (s : Shared) (H : Hp) (C : Addr) (cl : List (Str × Addr)) (fp : List Addr), PE (X.blk s H scope (compEnvC scope cl C X.env) fp) vx tv) (hs : ∀ x, foldedSetIterable iter X.env x = pure x := by intro _; rfl) :
    PS X (.Assign [.Name y py] (.DictComp kx vx [⟨tg, iter, ifs, 0⟩] scope pos) spos) (tAsg (tDc wi g tt tk tv (own.map (·.2))) (gName i)) := by
  refine ⟨fun pins s σ H D I h => ?_⟩
  rw [exec_Assign_Name_used _ _ _ _ hsw]
  refine wpAny_bind (wpAny_standAt (wpAny_bind ?_))
  show wpAny _ X.A (do let _ ← comprehension (.DictComp kx vx [⟨tg, iter, ifs, 0⟩] scope pos) scope X.env (firstIterPos [⟨tg, iter, ifs, 0⟩] pos) newDict false (eval iter X.env) (some (assign (.Name y py) X.env))) _ _ s
  have h : tDc wi g tt tk tv (own.map (·.2)) σ H (fun x H1 => gName i x σ H1 D.nx) := h
  refine wpAny_bind (thn (dc_core (Qf := fun _ s' => SP X pins D .next s') hc hN I hi ok hg ht hk he hs h fun L C s' m H' I' q hn f => ?_) fun _ s' hq => wpAny_pure (wpAny_pure hq))
  show wpAny _ _ (assign (.Name y py) X.env (.ref L)) _ _ _
  refine wpAny_assign_Name (store_ok2 (v := V.ref L) I' hN hy (.inl hyl) rfl (fun s2 I2 ⟨a, sb, ha⟩ => ?_) (.inr hyl))
  obtain ⟨f0, f1, f2, f3, f4, f5⟩ := f
  have haC : C ≠ a := by
    rcases ha with z | z
    · rw [z]; exact f1
    · exact fun e => f4 y a z e.symm
  refine ⟨m, hn.sameBut sb haC, fun h3 sb3 => ?_⟩
  exact ⟨_, H', I2.turned (t' := s2.toks) (fun b o hb e => (sb3.2 b hb).trans e) f0 f1 f3 f4 f5, q⟩
theorem sw_trueD {kx vx : Expr} {gs : List Comprehension} {scope : Scope} {pos py : Pos} {y : Str} {l : Nat} {env : Env} (hk : env.scope.kind = .function) (hy : env.scope.names.lookup y = some .local) (hl : (py.line == pos.line) = true)
    (ha : (scope.names.any fun (n, k) => n == y && (k == .local || k == .cell)) = false) : swapsWith (.DictComp kx vx gs scope pos) (some (.Name y py)) l env = pure true := by
  have ky : env.kindOf y = some .local := hy
  have hb : env.blockKind = .function := by unfold Env.blockKind; rw [hk]; rfl
  unfold swapsWith
  simp only [hb, ky, ha, Expr.pos, hl]
  rfl
end
/-- a dict comprehension over it -/
theorem dc_it {J : It} {n : Nat} {G : Hp → Prop} {Y : Nat → Hp → V → Hp → Prop} (w : Walk J n G Y) {g : TG} {tt : TT} {tk tv : TE} {vs : List Nat} {σ : L2.St} {H1 : Hp} {D : Addr} {Qd : Hp → Prop} (Pv : Nat → Hp → Prop) (h0 : Pv 0 (upd H1 D (.dK []))) (hG : ∀ i H, i ≤ n → Pv i H → G H)
    (hs : ∀ i x H H', i < n → Pv i H → Y i H x H' → g x (wipe σ vs) H' fun σ2 H2 => wipe σ2 vs = wipe σ vs ∧ tt σ2 H2 fun b H3 =>
      if b = true then tk σ2 H3 fun y H4 => tv σ2 H4 fun z H5 => ∃ kvs k, y = kV k ∧ H5 D = some (.dK kvs) ∧ kvs.length < sizeLine ∧ Pv (i + 1) (upd H5 D (.dK (putK kvs k z))) else Pv (i + 1) H3) (hd : ∀ H, Pv n H → Qd H) :
    ∃ W : Nat → Nat → Hp → Prop, (∃ m, W 0 m (upd H1 D (.dK []))) ∧ ∀ i m H, W i m H →
      (J.stop i H ∧ Qd H) ∨ (J.go i H ∧ ∃ Nx : Hp → Prop, (∀ H', Nx H' → ∃ m', m' < m ∧ W (i + 1) m' H') ∧ ∀ x H', J.yld i H x H' → g x (wipe σ vs) H' fun σ2 H2 => wipe σ2 vs = wipe σ vs ∧ tt σ2 H2 fun b H3 =>
        if b = true then tk σ2 H3 fun y H4 => tv σ2 H4 fun z H5 => ∃ kvs k, y = kV k ∧ H5 D = some (.dK kvs) ∧ kvs.length < sizeLine ∧ Nx (upd H5 D (.dK (putK kvs k z))) else Nx H3) := by
  refine ⟨fun i m H => m = n - i ∧ i ≤ n ∧ Pv i H, ⟨n, by simp, Nat.zero_le _, h0⟩, ?_⟩
  rintro i m H ⟨rfl, hi, p⟩
  have q := hG i H hi p
  by_cases hlt : i < n
  · refine .inr ⟨w.goes i H hlt q, Pv (i + 1), fun H' p' => ⟨n - (i + 1), by omega, rfl, hlt, p'⟩, fun x H' y => hs i x H H' hlt p (w.yields i H x H' hlt q y)⟩
  · have e : i = n := by omega
    subst e
    exact .inl ⟨w.stops H q, hd H p⟩
/-! ### tables from names -/
def kvF (f : Str → V) (ns : List Str) : List (Key × V) := ns.map fun z => (Sum.inr z, f z)
theorem kvF_len (f : Str → V) (ns : List Str) : (kvF f ns).length = ns.length := by simp [kvF]
theorem kvF_keys (f : Str → V) (ns : List Str) : (kvF f ns).map (fun kv => kV kv.1) = ns.map V.str := by simp [kvF, kV, Function.comp_def]
theorem kvF_get (f : Str → V) : ∀ (ns : List Str) (z : Str), valV (kvF f ns) (.inr z) = if z ∈ ns then some (f z) else none
  | [], z => rfl
  | a :: r, z => by
    show valV ((Sum.inr a, f a) :: kvF f r) (.inr z) = _
    by_cases e : a = z
    · subst e
      rw [valV_pos rfl]; simp
    · rw [valV_neg (by simpa using e), kvF_get f r z]
      have e2 : ¬ z = a := fun q => e q.symm
      simp [e2]
theorem kvF_in {f : Str → V} {ns : List Str} {z : Str} (h : z ∈ ns) : valV (kvF f ns) (.inr z) = some (f z) := by rw [kvF_get, if_pos h]
theorem kvF_out {f : Str → V} {ns : List Str} {z : Str} (h : z ∉ ns) : valV (kvF f ns) (.inr z) = none := by rw [kvF_get, if_neg h]
theorem kvF_known (f : Str → V) (ns : List Str) (x : V) : knownB (kvF f ns) x = (match x with | .str z => decide (z ∈ ns) | _ => false) := by
  cases x with
  | str z =>
    show (valV (kvF f ns) (.inr z)).isSome = decide (z ∈ ns)
    rw [kvF_get]
    by_cases h : z ∈ ns <;> simp [h]
  | _ => rfl
theorem kvF_snoc {f : Str → V} {ns : List Str} {z : Str} (h : z ∉ ns) : putK (kvF f ns) (.inr z) (f z) = kvF f (ns ++ [z]) := by
  rw [putK_new _ (kvF_out h)]
  simp [kvF]
theorem kvF_put {f : Str → V} {ns : List Str} {z : Str} {v : V} (h : z ∈ ns) : putK (kvF f ns) (.inr z) v = kvF (fun w => if w = z then v else f w) ns := by
  unfold putK
  rw [valV_any, kvF_in h, if_pos (show (some (f z)).isSome = true from rfl)]
  unfold kvF
  rw [List.map_map]
  refine List.map_congr_left fun w _ => ?_
  by_cases e : w = z
  · subst e; simp
  · have : ¬ (Sum.inr w : Key) = Sum.inr z := fun q => e (Sum.inr.inj q)
    simp [e]
theorem kvF_congr {f g : Str → V} {ns : List Str} (h : ∀ z ∈ ns, f z = g z) : kvF f ns = kvF g ns := List.map_congr_left fun z hz => by rw [h z hz]
/-! ### join_parts -/
def jn (f : Str → Str) (x y z : Str) : Str := if f z = f y then f x else f z
theorem take_mem {α : Type} [DecidableEq α] {l : List α} {i : Nat} {x z : α} (h : l[i]? = some x) : z ∈ l.take (i + 1) ↔ z ∈ l.take i ∨ z = x := by
  rw [take_snoc h]; simp
theorem nodup_take {l : List Str} (hN : l.Nodup) {i : Nat} {z : Str} (h : l[i]? = some z) : z ∉ l.take i := fun m => by
  obtain ⟨j, hj, ej⟩ := List.mem_iff_getElem.mp m
  have hji : j < i := by rw [List.length_take] at hj; omega
  have e1 : l[j]? = some z := by
    rw [List.getElem_take] at ej
    rw [← ej]; simp
  have := L2.nd_ix hN e1 h
  omega
section
variable {P : Program} {w : World} {K : PySem.W.Frag} {mg : Str → Option Value} {base : Heap} {D : Ads}
def sp_join_parts : Sp := fun vs H Q _ => ∃ d x y ns f, vs = [.ref d, .str x, .str y] ∧ H d = some (.dK (kvF (fun z => .str (f z)) ns)) ∧ ns.Nodup ∧ ns.length ≤ 1000 ∧ x ∈ ns ∧ y ∈ ns ∧
  ∀ H', (∀ b o, b ≠ d → H b = some o → H' b = some o) → H' d = some (.dK (kvF (fun z => .str (jn f x y z)) ns)) → Q .non H'
theorem sc_join_parts : FnScope ["parts", "one", "other", "kept", "gone", "person"] ["parts", "one", "other"] (defScope s_join_parts) := ⟨rfl, rfl, rfl, by decide +kernel, rfl, by decide +kernel, by decide +kernel⟩
theorem ok_join_parts (T : Txt K mg D) : FnOk P w K mg base CX0 1 D.a_join_parts D.d_join_parts ["parts", "one", "other"] sp_join_parts := by
  have nd := sc_join_parts.nd
  refine T.F_join_parts.ok sc_join_parts (fun vs H Q E h => ?_) (fun cdv A outer s H vs Q E hr h => ?_)
  · obtain ⟨d, x, y, ns, f, rfl, _⟩ := h
    rfl
  · obtain ⟨d, x, y, ns, f, rfl, hd, hn, hl, hx, hy, q⟩ := h
    have hu := hu_of hr
    refine ⟨_, pss_cons (ps_set (i := 3) nd rfl (Or.inl rfl) (pe_dget hu (pv 0) (pv 1) (fun _ _ => rfl)))
      (pss_cons (ps_set (i := 4) nd rfl (Or.inl rfl) (pe_dget hu (pv 0) (pv 2) (fun _ _ => rfl)))
      (pss_one (ps_for PassesOwn.never rfl (pi_list (pe_callTy (call_list_dK rfl) (by rfl) T.z_list boot_list' (pa_cons (pv 0) pa_nil))) (pg_name (i := 5) nd rfl (Or.inl rfl))
        (pss_one (ps_if (pt_cmpR op_eq (pe_dget hu (pv 0) (pv 5) (fun _ _ => rfl)) (pv 4) (nomark _)) (pss_one (ps_dput hu (pv 0) (pv 5) (pv 3) rfl)) pss_nil))))), ?_⟩
    refine ⟨_, rfl, _, rfl, d, .str (f x), rfl, ?_, _, rfl, _, rfl, d, .str (f y), rfl, ?_, ?_⟩
    · have := DGet.k (k := Sum.inr x) hd
      rw [kvF_in hx] at this; exact this
    · have := DGet.k (k := Sum.inr y) hd
      rw [kvF_in hy] at this; exact this
    refine ⟨_, rfl, d, _, rfl, hd, fun p hp => ⟨p, rfl, ⟨_, SqL.of upd_same⟩, ?_⟩⟩
    have npd : p ≠ d := (ne_of_none hd hp).symm
    rw [kvF_keys]
    refine for_it (walk_list (xs := ns.map V.str)) (fun i σ H' => i ≤ ns.length ∧ (∀ b o, b ≠ d → H b = some o → H' b = some o) ∧ H' p = some (.lst (ns.map V.str)) ∧ H' d = some (.dK (kvF (fun z => .str (if z ∈ ns.take i then jn f x y z else f z)) ns)) ∧ ∃ v5, σ = [some (.ref d), some (.str x), some (.str y), some (.str (f x)), some (.str (f y)), v5])
      ⟨Nat.zero_le _, fun b o _ e => by rw [upd_ne (ne_of_none e hp)]; exact e, by rw [upd_same], ?_, none, rfl⟩ (fun i σ' H' _ p' => SqL.of p'.2.2.1) ?_ ?_
    · rw [upd_ne npd.symm, hd]
      simp
    · rintro i v σ' H' H'' hi ⟨_, s1, hp', hd', v5, rfl⟩ ⟨rfl, hv⟩
      rw [List.length_map] at hi
      obtain ⟨z, hz⟩ : ∃ z, ns[i]? = some z := ⟨ns[i], by simp [hi]⟩
      have ev : v = .str z := by
        rw [List.getElem?_map, hz] at hv
        exact (Option.some.inj hv).symm
      subst ev
      have hzm : z ∈ ns := List.mem_of_getElem? hz
      have nin := nodup_take hn hz
      refine ⟨_, rfl, _, rfl, d, .str (f z), rfl, ?_, _, rfl, rfl, _, rfl, ?_⟩
      · have := DGet.k (k := Sum.inr z) hd'
        rw [kvF_in hzm, if_neg nin] at this; exact this
      refine ite2 (fun c => ?_) (fun c => ?_)
      · have hf : f z = f y := V.str.inj (of_decide_eq_true c)
        refine ⟨_, rfl, _, rfl, _, rfl, d, _, rfl, DPut.k (k := Sum.inr z) hd' (by rw [kvF_len]; exact small1000 hl), ?_⟩
        refine ⟨hi, fun b o nb e => by rw [upd_ne nb]; exact s1 b o nb e, by rw [upd_ne npd]; exact hp', ?_, _, rfl⟩
        rw [upd_same, kvF_put hzm]
        refine congrArg (fun t => some (HO.dK t)) (kvF_congr fun w _ => ?_)
        by_cases ew : w = z
        · subst ew
          rw [if_pos rfl, if_pos ((take_mem hz).mpr (.inr rfl))]
          unfold jn
          rw [if_pos hf]
        · rw [if_neg ew]
          by_cases hw : w ∈ ns.take i
          · rw [if_pos hw, if_pos ((take_mem hz).mpr (.inl hw))]
          · rw [if_neg hw, if_neg fun m => ((take_mem hz).mp m).elim hw ew]
      · have hf : ¬ f z = f y := fun e => c (decide_eq_true (by rw [e]))
        refine ⟨hi, s1, hp', ?_, _, rfl⟩
        rw [hd']
        refine congrArg (fun t => some (HO.dK t)) (kvF_congr fun w _ => ?_)
        by_cases hw : w ∈ ns.take i
        · rw [if_pos hw, if_pos ((take_mem hz).mpr (.inl hw))]
        · rw [if_neg hw]
          by_cases ew : w = z
          · subst ew
            rw [if_pos ((take_mem hz).mpr (.inr rfl))]
            unfold jn
            rw [if_neg hf]
          · rw [if_neg fun m => ((take_mem hz).mp m).elim hw ew]
    · rintro σ' H' ⟨_, s1, hp', hd', v5, rfl⟩
      refine q H' s1 ?_
      rw [hd', List.length_map, List.take_length]
      exact congrArg (fun t => some (HO.dK t)) (kvF_congr fun w hw => by rw [if_pos hw])
end
end HS

set_option maxHeartbeats 4000000
namespace HS
open PySem PySem.Spec L2
/-! ### first_bad_amount -/
def FBA (K : PySem.W.Frag) (H : Hp) (many : Nat) (v o : V) : Prop := (∃ k, TyK K H v k ∧ isLT k = false ∧ o = .int 0) ∨
  ∃ (a : Addr) (ws : List Int) (tl : List V), v = .ref a ∧ SeqV K H a (ws.map V.int ++ tl) ∧ ws.length ≤ many ∧ many ≤ 1000 ∧ (∀ x ∈ ws, 1 ≤ x) ∧ (tl = [] → o = if ws.length < many then .int ws.length else .non) ∧
    ∀ b r, tl = b :: r → (ws.length < many → ∃ k, TyK K H b k ∧ (k ≠ .int ∨ ∃ i, b = .int i ∧ i < 1)) ∧ o = .int ws.length
/-! ### labels of parts -/
def lab (es : List (Str × Str)) : Str → Str := es.foldl (fun f e => jn f e.1 e.2) (fun z => z)
theorem lab_snoc (es : List (Str × Str)) (e : Str × Str) : lab (es ++ [e]) = jn (lab es) e.1 e.2 := by simp [lab]
def PairV (K : PySem.W.Frag) (H : Hp) (v : V) (e : Str × Str) : Prop := ∃ a, v = .ref a ∧ SeqV K H a [.str e.1, .str e.2]
def PairsV (K : PySem.W.Frag) (H : Hp) (ts : List V) (es : List (Str × Str)) : Prop := ts.length = es.length ∧ ∀ (i : Nat) v e, ts[i]? = some v → es[i]? = some e → PairV K H v e
theorem PairV.same {K : PySem.W.Frag} {H H' : Hp} {v : V} {e : Str × Str} (s : Same H H') (h : PairV K H v e) : PairV K H' v e := let ⟨a, x, y⟩ := h; ⟨a, x, y.same s⟩
theorem PairsV.same {K : PySem.W.Frag} {H H' : Hp} {ts : List V} {es : List (Str × Str)} (s : Same H H') (h : PairsV K H ts es) : PairsV K H' ts es := ⟨h.1, fun i v e a b => (h.2 i v e a b).same s⟩
def GoodT (ns : List Str) (es : List (Str × Str)) : Prop := ∀ (i : Nat) e, es[i]? = some e → e.1 ∈ ns ∧ e.2 ∈ ns ∧ lab (es.take i) e.1 ≠ lab (es.take i) e.2
def BadTie (K : PySem.W.Frag) (H : Hp) (ns : List Str) (es : List (Str × Str)) (b : V) : Prop := (∃ k, TyK K H b k ∧ isLT k = false) ∨ (∃ a xs, b = .ref a ∧ SeqV K H a xs ∧ xs.length ≠ 2) ∨
  ∃ a x y k l, b = .ref a ∧ SeqV K H a [x, y] ∧ TyK K H x k ∧ TyK K H y l ∧ ((∀ z, x = .str z → z ∉ ns) ∨ (∀ z, y = .str z → z ∉ ns) ∨ ∃ u v, x = .str u ∧ y = .str v ∧ u ∈ ns ∧ v ∈ ns ∧ lab es u = lab es v)
theorem BadTie.same {K : PySem.W.Frag} {H H' : Hp} {ns : List Str} {es : List (Str × Str)} {b : V} (s : Same H H') (h : BadTie K H ns es b) : BadTie K H' ns es b := by
  rcases h with ⟨k, t, e⟩ | ⟨a, xs, e, q, n⟩ | ⟨a, x, y, k, l, e, q, t1, t2, r⟩
  · exact .inl ⟨k, t.ext s, e⟩
  · exact .inr (.inl ⟨a, xs, e, q.same s, n⟩)
  · exact .inr (.inr ⟨a, x, y, k, l, e, q.same s, t1.ext s, t2.ext s, r⟩)
def FBT (K : PySem.W.Frag) (H : Hp) (ns : List Str) (v o : V) : Prop := (∃ k, TyK K H v k ∧ isLT k = false ∧ o = .int 0) ∨
  ∃ a ts es tl, v = .ref a ∧ SeqV K H a (ts ++ tl) ∧ PairsV K H ts es ∧ GoodT ns es ∧ es.length ≤ 1000 ∧ (tl = [] → o = if (es.length : Int) < (ns.length : Int) - 1 then .int es.length else .non) ∧ ∀ b r, tl = b :: r → BadTie K H ns es b ∧ o = .int es.length
theorem SeqV.ix {K : PySem.W.Frag} {H : Hp} {a : Addr} {xs : List V} {j : Nat} {v : V} (h : SeqV K H a xs) (e : xs[j]? = some v) {Q : VK} (q : Q v H) : rIx K (.ref a) (.int (j : Nat)) H Q := by
  rcases h with h | h
  · exact .inl ⟨a, xs, _, v, rfl, rfl, h, atI_nat e, q⟩
  · exact .inr (.inl ⟨a, xs, _, v, rfl, rfl, h, atI_nat e, q⟩)
section
variable {P : Program} {w : World} {K : PySem.W.Frag} {mg : Str → Option Value} {base : Heap} {D : Ads}
def sp_first_bad_amount (K : PySem.W.Frag) : Sp := fun vs H Q _ => ∃ (many : Nat) (v o : V), vs = [.int many, v, .int 1] ∧ FBA K H many v o ∧ ∀ H', Same H H' → Q o H'
theorem sc_first_bad_amount : FnScope ["many", "amounts", "least", "index", "amount"] ["many", "amounts", "least"] (defScope s_first_bad_amount) := ⟨rfl, rfl, rfl, by decide +kernel, rfl, by decide +kernel, by decide +kernel⟩
theorem ok_first_bad_amount (T : Txt K mg D) : FnOk P w K mg base CX0 2 D.a_first_bad_amount D.d_first_bad_amount ["many", "amounts", "least"] (sp_first_bad_amount K) := by
  have G1 : FnOk P w K mg base CX0 1 D.a_is_list D.d_is_list ["thing"] (sp_is_list K) := ok_is_list T
  have G2 : FnOk P w K mg base CX0 1 D.a_is_integer D.d_is_integer ["thing"] (sp_is_integer K) := ok_is_integer T
  have nd := sc_first_bad_amount.nd
  refine T.F_first_bad_amount.ok sc_first_bad_amount (fun vs H Q E h => ?_) (fun cdv A outer s H vs Q E hr h => ?_)
  · obtain ⟨many, v, o, rfl, _⟩ := h
    rfl
  · obtain ⟨many, v, o, rfl, fa, q⟩ := h
    refine ⟨_, pss_cons (ps_if (pt_not (pt_val (pe_call G1 hr rfl T.g_is_list T.F_is_list.kp T.b_is_list .nil pass0 (pa_cons (pv 1) pa_nil)))) (pss_one (ps_ret pe_int)) pss_nil)
      (pss_cons (ps_for PassesOwn.never rfl (pi_enS (by rfl) T.z_enumerate (pa_cons (pv 1) pa_nil)) (pg_tup (by rfl) (pgs_cons (pg_name (i := 3) nd rfl (Or.inl rfl)) (pgs_cons (pg_name (i := 4) nd rfl (Or.inl rfl)) pgs_nil)))
        (pss_one (ps_if (PW.pt (pw_or (pt_cmpR op_ge (pv 3) (pv 0) (nomark _)) (pw_or (pt_not (pt_val (pe_call G2 hr rfl T.g_is_integer T.F_is_integer.kp T.b_is_integer .nil pass0 (pa_cons (pv 4) pa_nil)))) (pw_or1 (pt_cmpR op_lt (pv 4) (pv 2) (nomark _)))))) (pss_one (ps_ret (pv 3))) pss_nil)))
      (pss_cons (ps_if (pt_cmpR op_lt (pe_callB call_len_seq (by rfl) T.z_len PySem.boot_len (pa_cons (pv 1) pa_nil)) (pv 0) (nomark _)) (pss_one (ps_ret (pe_callB call_len_seq (by rfl) T.z_len PySem.boot_len (pa_cons (pv 1) pa_nil)))) pss_nil)
      (pss_one (ps_ret pe_non)))), ?_⟩
    rcases fa with ⟨k, t, hk, rfl⟩ | ⟨a, ws, tl, rfl, hs, hl, hm, hw, qn, qb⟩
    · refine ⟨_, rfl, _, k, rfl, t, fun H1 s1 => ⟨_, rfl, ?_⟩⟩
      rw [hk]
      exact iteT (q H1 s1)
    · obtain ⟨k, t, e⟩ := hs.ty
      refine ⟨_, rfl, _, k, rfl, t, fun H1 s1 => ⟨_, rfl, ?_⟩⟩
      rw [e]
      refine iteF (for_enS (xs := ws.map V.int ++ tl) rfl hs (fun i σ H' => i ≤ ws.length ∧ Same H1 H' ∧ ∃ v2 v3, σ = [some (.int many), some (.ref a), some (.int 1), v2, v3]) ⟨Nat.zero_le _, Same.refl _, none, none, rfl⟩ (fun i σ' H' _ p => s1.trans p.2.1) ?_ ?_)
      · rintro i x Tt σ' H' hx ⟨hi, s2, v2, v3, rfl⟩ hT
        refine ⟨Tt, _, rfl, SqT.of upd_same, rfl, _, _, rfl, _, _, rfl, rfl, ?_⟩
        have s3 : Same H' (upd H' Tt (.tup [.int (i : Nat), x])) := same_new hT
        have sH3 : Same H (upd H' Tt (.tup [.int (i : Nat), x])) := (s1.trans s2).trans s3
        by_cases hin : i < ws.length
        · obtain ⟨z, hz⟩ : ∃ z, ws[i]? = some z := ⟨ws[i], by simp [hin]⟩
          have ex : x = .int z := by
            rw [List.getElem?_append_left (by simpa using hin), List.getElem?_map, hz] at hx
            exact (Option.some.inj hx).symm
          subst ex
          have hzm : z ∈ ws := List.mem_of_getElem? hz
          have hz1 := hw z hzm
          refine ⟨_, rfl, _, rfl, _, _, rfl, rfl, _, rfl, ?_⟩
          rw [decide_eq_false (show ¬ ((many : Int) ≤ (i : Nat)) by omega)]
          refine iteF ⟨_, rfl, _, .int, rfl, TyK.int z, _, rfl, ?_⟩
          refine iteF ⟨_, rfl, _, rfl, _, _, rfl, rfl, _, rfl, ?_⟩
          rw [decide_eq_false (show ¬ (z < (1 : Int)) by omega)]
          exact iteF ⟨hin, s2.trans s3, _, _, rfl⟩
        · have ein : i = ws.length := by omega
          subst ein
          rw [List.getElem?_append_right (by simp)] at hx
          simp only [List.length_map, Nat.sub_self] at hx
          obtain ⟨r, etl⟩ : ∃ r, tl = x :: r := by
            cases tl with
            | nil => simp at hx
            | cons y r => exact ⟨r, by simp at hx; rw [hx]⟩
          obtain ⟨bad, eo⟩ := qb x r etl
          subst eo
          have fin : ∀ H4, Same (upd H' Tt (.tup [.int ((ws.length : Nat)), x])) H4 → Q (.int (ws.length : Nat)) H4 := fun H4 s4 => q _ (sH3.trans s4)
          refine ⟨_, rfl, _, rfl, _, _, rfl, rfl, _, rfl, ?_⟩
          by_cases hlt : ws.length < many
          · rw [decide_eq_false (show ¬ ((many : Int) ≤ (ws.length : Nat)) by omega)]
            obtain ⟨k2, t2, hb⟩ := bad hlt
            have t2 := t2.ext sH3
            refine iteF ⟨_, rfl, _, k2, rfl, t2, _, rfl, ?_⟩
            by_cases hk2 : k2 = .int
            · subst hk2
              rcases hb with hb | ⟨z, ez, hz1⟩
              · exact absurd rfl hb
              · subst ez
                refine iteF ⟨_, rfl, _, rfl, _, _, rfl, rfl, _, rfl, ?_⟩
                rw [decide_eq_true hz1]
                exact iteT ⟨_, rfl, fin _ (Same.refl _)⟩
            · rw [decide_eq_false hk2]
              exact iteT ⟨_, rfl, fin _ (Same.refl _)⟩
          · rw [decide_eq_true (show ((many : Int) ≤ (ws.length : Nat)) by omega)]
            exact iteT ⟨_, rfl, fin _ (Same.refl _)⟩
      · rintro σ' H' ⟨hi, s2, v2, v3, rfl⟩
        rw [List.length_append, List.length_map] at hi
        have e0 : tl = [] := List.length_eq_zero_iff.mp (by omega)
        have eo := qn e0
        subst e0
        have hs2 := hs.same (s1.trans s2)
        refine ⟨_, rfl, a, _, rfl, hs2, _, rfl, _, _, rfl, rfl, _, rfl, ?_⟩
        have el : ((ws.map V.int ++ []).length : Int) = ws.length := by simp
        rw [el]
        by_cases hlt : ws.length < many
        · rw [if_pos hlt] at eo
          subst eo
          rw [decide_eq_true (show ((ws.length : Int) < many) by omega)]
          refine iteT ⟨_, rfl, a, _, rfl, hs2, ?_⟩
          rw [el]
          exact q _ (s1.trans s2)
        · rw [if_neg hlt] at eo
          subst eo
          rw [decide_eq_false (show ¬ ((ws.length : Int) < many) by omega)]
          exact iteF (q _ (s1.trans s2))
end
end HS

set_option maxHeartbeats 4000000
namespace HS
open PySem PySem.Spec L2
section
variable {P : Program} {w : World} {K : PySem.W.Frag} {mg : Str → Option Value} {base : Heap} {D : Ads}
/-! ### first_bad_tie -/
def sp_first_bad_tie (K : PySem.W.Frag) : Sp := fun vs H Q _ => ∃ (pa : Addr) (v : V) (ns : List Str) (o : V), vs = [.ref pa, v] ∧ SeqV K H pa (ns.map V.str) ∧ ns.Nodup ∧ ns.length ≤ 1000 ∧ FBT K H ns v o ∧ ∀ H', Same H H' → Q o H'
/-- {x: x for x in people}, the reading -/
theorem dc_same {K : PySem.W.Frag} {a : Addr} {ns : List Str} {H : Hp} {Q : VK} {σ : L2.St} {j m : Nat} (hj : j < σ.length) (hm : σ[m]? = some (some (.ref a))) (hn : ns.Nodup) (hl : ns.length ≤ 1000) (h : SeqV K H a (ns.map V.str))
    (hd : ∀ d H', H d = none → Same H H' → H' d = some (.dK (kvF V.str ns)) → Q (.ref d) H') :
    tDc (fun σ H R => iList K (tVar m) σ H R ∨ iTup K (tVar m) σ H R) (gName j) tYes (tVar j) (tVar j) [j] σ H Q := by
  have turn : ∀ (d : Addr) (i : Nat) (x : V) (H2 : Hp), H d = none → i ≤ ns.length ∧ Same H H2 ∧ H2 d = some (.dK (kvF V.str (ns.take i))) → (ns.map V.str)[i]? = some x →
      gName j x (wipe σ [j]) H2 fun σ2 H2 => wipe σ2 [j] = wipe σ [j] ∧ tYes σ2 H2 fun b H3 => if b = true then tVar j σ2 H3 fun y H4 => tVar j σ2 H4 fun z H5 => ∃ kvs k, y = kV k ∧ H5 d = some (.dK kvs) ∧ kvs.length < sizeLine ∧
        (i + 1 ≤ ns.length ∧ Same H (upd H5 d (.dK (putK kvs k z))) ∧ (upd H5 d (.dK (putK kvs k z))) d = some (.dK (kvF V.str (ns.take (i + 1))))) else (i + 1 ≤ ns.length ∧ Same H H3 ∧ H3 d = some (.dK (kvF V.str (ns.take (i + 1))))) := by
    intro d i x H2 hd0 ⟨hi, s, e⟩ hx
    have hlt : i < ns.length := by
      have := (List.getElem?_eq_some_iff.mp hx).1
      simpa using this
    obtain ⟨z, hz⟩ : ∃ z, ns[i]? = some z := ⟨ns[i], by simp [hlt]⟩
    have ex : x = .str z := by
      rw [List.getElem?_map, hz] at hx
      exact (Option.some.inj hx).symm
    subst ex
    have gs : ((wipe σ [j]).set j (some (.str z)))[j]? = some (some (.str z)) := by
      rw [List.getElem?_set_self]
      rw [wipe_length]; exact hj
    refine ⟨?_, ?_⟩
    · show ((σ.set j none).set j (some (V.str z))).set j none = (σ.set j none)
      rw [List.set_set, List.set_set]
    · unfold tYes
      dsimp only
      first
        | rw [if_pos rfl]
        | skip
      refine ⟨_, gs, _, gs, _, Sum.inr z, rfl, e, ?_, hlt, same_upd s hd0, ?_⟩
      · rw [kvF_len, List.length_take]
        exact small1000 (by omega)
      · rw [upd_same, kvF_snoc (nodup_take hn hz), take_snoc hz]
  rcases h with h | h
  · refine .inl ⟨_, hm, a, rfl, ⟨_, h⟩, fun d hd0 => ?_⟩
    exact dc_it (walk_list (xs := ns.map V.str)) (fun i H2 => i ≤ ns.length ∧ Same H H2 ∧ H2 d = some (.dK (kvF V.str (ns.take i)))) ⟨Nat.zero_le _, same_new hd0, upd_same⟩ (fun i H2 _ p => p.2.1.seq h) (fun i x H2 H3 hi p y => by
      obtain ⟨rfl, hx⟩ := y
      exact turn d i x _ hd0 p hx) fun H2 p => hd d H2 hd0 p.2.1 (by rw [p.2.2, List.length_map, List.take_of_length_le (Nat.le_refl _)])
  · refine .inr ⟨_, hm, a, rfl, ⟨_, h⟩, fun d hd0 => ?_⟩
    exact dc_it (walk_tup (xs := ns.map V.str)) (fun i H2 => i ≤ ns.length ∧ Same H H2 ∧ H2 d = some (.dK (kvF V.str (ns.take i)))) ⟨Nat.zero_le _, same_new hd0, upd_same⟩ (fun i H2 _ p => SqT.same p.2.1 h) (fun i x H2 H3 hi p y => by
      obtain ⟨rfl, hx⟩ := y
      exact turn d i x _ hd0 p hx) fun H2 p => hd d H2 hd0 p.2.1 (by rw [p.2.2, List.length_map, List.take_of_length_le (Nat.le_refl _)])
theorem st_dc_same {K : PySem.W.Frag} {a : Addr} {ns : List Str} {H : Hp} {u : TS} {Dn : Ends} {σ : L2.St} {j m i : Nat} {own : List (Str × Nat)} (ho : own.map (·.2) = [j]) (hj : j < σ.length) (hm : σ[m]? = some (some (.ref a))) (hn : ns.Nodup) (hl : ns.length ≤ 1000) (h : SeqV K H a (ns.map V.str))
    (hd : ∀ d H', H d = none → Same H H' → H' d = some (.dK (kvF V.str ns)) → u Dn (σ.set i (some (.ref d))) H') :
    tSeq (tAsg (tDc (fun σ H R => iList K (tVar m) σ H R ∨ iTup K (tVar m) σ H R) (gName j) tYes (tVar j) (tVar j) (own.map (·.2))) (gName i)) u Dn σ H := by
  rw [ho]
  exact dc_same (Q := fun x H1 => gName i x σ H1 (u Dn)) hj hm hn hl h hd
theorem sc_first_bad_tie : FnScope ["people", "ties", "parts", "index", "tie", "person"] ["people", "ties"] (defScope s_first_bad_tie) := ⟨rfl, rfl, rfl, by decide +kernel, rfl, by decide +kernel, by decide +kernel⟩
theorem ok_first_bad_tie (T : Txt K mg D) : FnOk P w K mg base CX0 3 D.a_first_bad_tie D.d_first_bad_tie ["people", "ties"] (sp_first_bad_tie K) := by
  have G1 : FnOk P w K mg base CX0 1 D.a_is_list D.d_is_list ["thing"] (sp_is_list K) := ok_is_list T
  have G2 : FnOk P w K mg base CX0 2 D.a_is_pair_of D.d_is_pair_of ["known", "thing"] (sp_is_pair_of K) := ok_is_pair_of T
  have G3 : FnOk P w K mg base CX0 1 D.a_join_parts D.d_join_parts ["parts", "one", "other"] sp_join_parts := ok_join_parts T
  have nd := sc_first_bad_tie.nd
  refine T.F_first_bad_tie.ok sc_first_bad_tie (fun vs H Q E h => ?_) (fun cdv A outer s H vs Q E hr h => ?_)
  · obtain ⟨pa, v, ns, o, rfl, _⟩ := h
    rfl
  · obtain ⟨pa, v, ns, o, rfl, hp, hn, hnl, ft, q⟩ := h
    have hu := hu_of hr
    have hr1 : Room 1 _ := hr.mono (by decide)
    refine ⟨_, pss_cons (ps_if (pt_not (pt_val (pe_call G1 hr1 rfl T.g_is_list T.F_is_list.kp T.b_is_list .nil pass0 (pa_cons (pv 1) pa_nil)))) (pss_one (ps_ret pe_int)) pss_nil)
      (pss_cons (ps_setDc (i := 2) (own := [("person", 5)]) (g := gName 5) (tt := tYes) rfl nd rfl rfl (sw_trueD rfl rfl rfl (by decide +kernel)) (PI.or (pi_list (pv 0)) (pi_tup (pv 0))) (blkOk_by (N := ["people", "ties", "parts", "index", "tie", "person"]) (sc := defScope s_first_bad_tie) (by decide +kernel))
          (fun _ _ _ _ _ => pg_name (i := 5) nd rfl (Or.inl rfl)) (fun _ _ _ _ _ => pts_nil) (fun _ _ _ _ _ => pv 5) (fun _ _ _ _ _ => pv 5))
      (pss_cons (ps_for PassesOwn.never rfl (pi_enS (by rfl) T.z_enumerate (pa_cons (pv 1) pa_nil)) (pg_tup (by rfl) (pgs_cons (pg_name (i := 3) nd rfl (Or.inl rfl)) (pgs_cons (pg_name (i := 4) nd rfl (Or.inl rfl)) pgs_nil)))
        (pss_cons (ps_if (PW.pt (pw_or (pt_not (pt_val (pe_call G2 hr rfl T.g_is_pair_of T.F_is_pair_of.kp T.b_is_pair_of .nil pass0 (pa_cons (pv 2) (pa_cons (pv 4) pa_nil)))))
            (pw_or1 (pt_cmpR op_eq (pe_dget hu (pv 2) (pe_ix ix_seq (pv 4) pe_int (fun _ _ => rfl)) (fun _ _ => rfl)) (pe_dget hu (pv 2) (pe_ix ix_seq (pv 4) pe_int (fun _ _ => rfl)) (fun _ _ => rfl)) (nomark _))))) (pss_one (ps_ret (pv 3))) pss_nil)
          (pss_one (ps_expr (pe_call G3 hr1 rfl T.g_join_parts T.F_join_parts.kp T.b_join_parts .nil pass0 (pa_cons (pv 2) (pa_cons (pe_ix ix_seq (pv 4) pe_int (fun _ _ => rfl)) (pa_cons (pe_ix ix_seq (pv 4) pe_int (fun _ _ => rfl)) pa_nil))))))))
      (pss_cons (ps_if (pt_cmpR op_lt (pe_callB call_len_seq (by rfl) T.z_len PySem.boot_len (pa_cons (pv 1) pa_nil)) (pe_op op_sub (pe_callB call_len_seq (by rfl) T.z_len PySem.boot_len (pa_cons (pv 0) pa_nil)) pe_int) (nomark _)) (pss_one (ps_ret (pe_callB call_len_seq (by rfl) T.z_len PySem.boot_len (pa_cons (pv 1) pa_nil)))) pss_nil)
      (pss_one (ps_ret pe_non))))), ?_⟩
    rcases ft with ⟨k, t, hk, rfl⟩ | ⟨a, ts, es, tl, rfl, hs, hpv, hg, hl, qn, qb⟩
    · refine ⟨_, rfl, _, k, rfl, t, fun H1 s1 => ⟨_, rfl, ?_⟩⟩
      rw [hk]
      exact iteT (q H1 s1)
    · obtain ⟨k, t, e⟩ := hs.ty
      refine ⟨_, rfl, _, k, rfl, t, fun H1 s1 => ⟨_, rfl, ?_⟩⟩
      rw [e]
      refine iteF (show tSeq _ _ _ _ _ from st_dc_same (K := K) (a := pa) (ns := ns) (j := 5) (m := 0) rfl (by show 5 < 6; decide) rfl hn hnl (hp.same s1) fun d H2 hd0 s2 hd2 => ?_)
      have hdH : H d = none := s1.free hd0
      have sH2 : Same H H2 := s1.trans s2
      have back : ∀ {H' : Hp}, (∀ b o, b ≠ d → H2 b = some o → H' b = some o) → Same H H' := fun {H'} k b o e => k b o (ne_of_none e hdH) (sH2 b o e)
      refine for_enS (xs := ts ++ tl) rfl hs (fun i σ H' => i ≤ es.length ∧ (∀ b o, b ≠ d → H2 b = some o → H' b = some o) ∧ H' d = some (.dK (kvF (fun z => .str (lab (es.take i) z)) ns)) ∧ ∃ v3 v4, σ = [some (.ref pa), some (.ref a), some (.ref d), v3, v4, none])
        ⟨Nat.zero_le _, fun b o _ e => e, hd2, none, none, rfl⟩ (fun i σ' H' _ p => back p.2.1) ?_ ?_
      · rintro i x Tt σ' H' hx ⟨hi, k2, hdd, v3, v4, rfl⟩ hT
        refine ⟨Tt, _, rfl, SqT.of upd_same, rfl, _, _, rfl, _, _, rfl, rfl, ?_⟩
        have s3 : Same H' (upd H' Tt (.tup [.int (i : Nat), x])) := same_new hT
        have hd3 := s3 _ _ hdd
        have sH3 : Same H (upd H' Tt (.tup [.int (i : Nat), x])) := (back k2).trans s3
        have kn : ∀ z, z ∈ ns → knownB (kvF (fun z => V.str (lab (es.take i) z)) ns) (.str z) = true := fun z hz => by rw [kvF_known]; exact decide_eq_true hz
        by_cases hin : i < es.length
        · obtain ⟨e1, he1⟩ : ∃ e1, es[i]? = some e1 := ⟨es[i], by simp [hin]⟩
          have hxt : ts[i]? = some x := by
            rw [List.getElem?_append_left (by rw [hpv.1]; exact hin)] at hx
            exact hx
          obtain ⟨q1, ex, hq1⟩ := hpv.2 i x e1 hxt he1
          subst ex
          obtain ⟨m1, m2, nl⟩ := hg i e1 he1
          have hq3 := hq1.same sH3
          have ip := IPO.two (kvs := kvF (fun z => V.str (lab (es.take i) z)) ns) hq3 (TyK.str e1.1) (TyK.str e1.2)
          rw [kn _ m1, kn _ m2] at ip
          refine ⟨_, rfl, _, rfl, d, _, _, _, rfl, hd3, ip, fun H4 s4 => ⟨_, rfl, iteF ?_⟩⟩
          have hd4 := s4 _ _ hd3
          have hq4 := hq3.same s4
          refine ⟨_, rfl, _, rfl, hq4.ix (j := 0) rfl ⟨d, .str (lab (es.take i) e1.1), rfl, ?_, _, rfl, _, rfl, hq4.ix (j := 1) rfl ⟨d, .str (lab (es.take i) e1.2), rfl, ?_, rfl, _, rfl, ?_⟩⟩⟩
          · have := DGet.k (k := Sum.inr e1.1) hd4
            rw [kvF_in m1] at this; exact this
          · have := DGet.k (k := Sum.inr e1.2) hd4
            rw [kvF_in m2] at this; exact this
          rw [decide_eq_false (fun z => nl (V.str.inj z))]
          refine iteF ⟨_, rfl, _, rfl, hq4.ix (j := 0) rfl ⟨_, rfl, hq4.ix (j := 1) rfl ⟨d, e1.1, e1.2, ns, lab (es.take i), rfl, hd4, hn, hnl, m1, m2, fun H5 k5 hd5 => ?_⟩⟩⟩
          refine ⟨hin, fun b o nb e => k5 b o nb (s4 b o (s3 b o (k2 b o nb e))), ?_, _, _, rfl⟩
          rw [hd5, take_snoc he1, lab_snoc]
        · have ein : i = es.length := by omega
          subst ein
          rw [List.getElem?_append_right (by rw [hpv.1]; exact Nat.le_refl _), hpv.1, Nat.sub_self] at hx
          obtain ⟨r, etl⟩ : ∃ r, tl = x :: r := by
            cases tl with
            | nil => simp at hx
            | cons y r => exact ⟨r, by simp at hx; rw [hx]⟩
          obtain ⟨bad, eo⟩ := qb x r etl
          subst eo
          have fin : ∀ H4, Same (upd H' Tt (.tup [.int ((es.length : Nat)), x])) H4 → Q (.int (es.length : Nat)) H4 := fun H4 s4 => q _ (sH3.trans s4)
          rw [List.take_length] at hdd hd3 kn
          refine ⟨_, rfl, _, rfl, ?_⟩
          rcases bad.same sH3 with ⟨k1, t1, e1⟩ | ⟨a1, xs1, rfl, hq3, n1⟩ | ⟨a1, x1, y1, k1, l1, rfl, hq3, t1, t2, hb⟩
          · exact ⟨d, _, _, _, rfl, hd3, IPO.no t1 e1, fun H4 s4 => ⟨_, rfl, iteT ⟨_, rfl, fin _ s4⟩⟩⟩
          · exact ⟨d, _, _, _, rfl, hd3, IPO.len hq3 n1, fun H4 s4 => ⟨_, rfl, iteT ⟨_, rfl, fin _ s4⟩⟩⟩
          · have ip := IPO.two (kvs := kvF (fun z => V.str (lab es z)) ns) hq3 t1 t2
            refine ⟨d, _, _, _, rfl, hd3, ip, fun H4 s4 => ⟨_, rfl, ?_⟩⟩
            have hd4 := s4 _ _ hd3
            have hq4 := hq3.same s4
            have kf : ∀ v, (∀ z, v = V.str z → z ∉ ns) → knownB (kvF (fun z => V.str (lab es z)) ns) v = false := fun v hv => by
              rw [kvF_known]
              cases v with
              | str z => exact decide_eq_false (hv z rfl)
              | _ => rfl
            rcases hb with hb | hb | ⟨u, v, rfl, rfl, m1, m2, el⟩
            · rw [kf _ hb, Bool.false_and]
              exact iteT ⟨_, rfl, fin _ s4⟩
            · rw [kf _ hb, Bool.and_false]
              exact iteT ⟨_, rfl, fin _ s4⟩
            · rw [kn _ m1, kn _ m2]
              refine iteF ⟨_, rfl, _, rfl, hq4.ix (j := 0) rfl ⟨d, .str (lab es u), rfl, ?_, _, rfl, _, rfl, hq4.ix (j := 1) rfl ⟨d, .str (lab es v), rfl, ?_, rfl, _, rfl, ?_⟩⟩⟩
              · have := DGet.k (k := Sum.inr u) hd4
                rw [kvF_in m1] at this; exact this
              · have := DGet.k (k := Sum.inr v) hd4
                rw [kvF_in m2] at this; exact this
              rw [decide_eq_true (by rw [el])]
              exact iteT ⟨_, rfl, fin _ s4⟩
      · rintro σ' H' ⟨hi, k2, hdd, v3, v4, rfl⟩
        rw [List.length_append, hpv.1] at hi
        have e0 : tl = [] := List.length_eq_zero_iff.mp (by omega)
        have eo := qn e0
        subst e0
        have hs2 := hs.same (back k2)
        have hp2 := hp.same (back k2)
        have el : ((ts ++ []).length : Int) = es.length := by simp [hpv.1]
        refine ⟨_, rfl, a, _, rfl, hs2, _, rfl, pa, _, rfl, hp2, _, _, rfl, rfl, _, _, rfl, rfl, _, rfl, ?_⟩
        rw [el, List.length_map]
        by_cases hlt : (es.length : Int) < (ns.length : Int) - 1
        · rw [if_pos hlt] at eo
          subst eo
          rw [decide_eq_true hlt]
          refine iteT ⟨_, rfl, a, _, rfl, hs2, ?_⟩
          rw [el]
          exact q _ (back k2)
        · rw [if_neg hlt] at eo
          subst eo
          rw [decide_eq_false hlt]
          exact iteF (q _ (back k2))
end
end HS

set_option maxHeartbeats 4000000
namespace HS
open PySem PySem.Spec L2
/-! ### the errors -/
/-- __init__(self, f): self.f = f, of an exception that is being made -/
def spX (K : PySem.W.Frag) (C : Addr) (f : Str) : Sp := fun vs H Q _ => ∃ a v, vs = [.ref a, v] ∧ H a = some (exo a C none) ∧ ∀ dx, H dx = none → dx ≠ a → Q .non (upd (upd H dx (exd dx [(f, v)])) a (exo a C (some dx)))
theorem err_heap {H : Hp} {a dx : Addr} {x1 x2 x3 y : HO} (ha : H a = none) (ne : dx ≠ a) : upd (del (upd (upd (upd H a x1) dx x2) a x3) a) dx y = upd H dx y := by
  funext b
  by_cases hb : b = dx
  · rw [hb, upd_same, upd_same]
  · rw [upd_ne hb, upd_ne hb]
    by_cases hba : b = a
    · rw [hba, del_same, ha]
    · rw [del_ne hba, upd_ne hba, upd_ne hb, upd_ne hba]
section
variable {P : Program} {w : World} {K : PySem.W.Frag} {mg : Str → Option Value} {base : Heap} {D : Ads}
theorem ok_xinit {nm q f : Str} {st : Stmt} {C fI : Addr} {fd : FuncData} {p1 p2 p3 p4 : Pos} (T : XTxt K mg nm q f st C fI fd) (sc : FnScope ["self", f] ["self", f] (defScope st)) (hb : defBody st = [.Assign [.Attribute (.Name "self" p1) f p2] (.Name f p3) p4])
    (h0 : (defScope st).names.lookup ("self" : Str) = some NameKind.local) (h1 : (defScope st).names.lookup f = some NameKind.local) (hd : (f == ("__debug__" : Str)) = false) (hcd : (f == ("__classdict__" : Str)) = false) : FnOk P w K mg base CX0 1 fI fd ["self", f] (spX K C f) := by
  refine T.F.ok sc (fun vs H Q E h => ?_) (fun cdv A outer s H vs Q E hr h => ?_)
  · obtain ⟨a, v, rfl, _⟩ := h
    rfl
  · obtain ⟨a, v, rfl, ha, k⟩ := h
    rw [hb]
    refine ⟨_, pss_one (ps_ost (pe_var (i := 0) rfl (.inl h0)) (pe_var (i := 1) rfl (.inl h1) hd hcd)), ?_⟩
    exact ⟨v, rfl, .ref a, rfl, a, C, rfl, T.ox, T.noN, .inl ⟨ha, fun dx hdx ne => k dx hdx ne⟩⟩
theorem sc_x1 : FnScope ["self", "index"] ["self", "index"] (defScope s_x_BadPeople) := ⟨rfl, rfl, rfl, by decide +kernel, rfl, by decide +kernel, by decide +kernel⟩
theorem sc_x2 : FnScope ["self", "index"] ["self", "index"] (defScope s_x_BadTies) := ⟨rfl, rfl, rfl, by decide +kernel, rfl, by decide +kernel, by decide +kernel⟩
theorem sc_x3 : FnScope ["self", "index"] ["self", "index"] (defScope s_x_BadNews) := ⟨rfl, rfl, rfl, by decide +kernel, rfl, by decide +kernel, by decide +kernel⟩
theorem ok_x1 (T : Txt K mg D) : FnOk P w K mg base CX0 1 D.a_x_BadPeople D.d_x_BadPeople ["self", "index"] (spX K D.c_BadPeople "index") := ok_xinit T.x_BadPeople sc_x1 rfl rfl rfl (by decide) (by decide)
theorem ok_x2 (T : Txt K mg D) : FnOk P w K mg base CX0 1 D.a_x_BadTies D.d_x_BadTies ["self", "index"] (spX K D.c_BadTies "index") := ok_xinit T.x_BadTies sc_x2 rfl rfl rfl (by decide) (by decide)
theorem ok_x3 (T : Txt K mg D) : FnOk P w K mg base CX0 1 D.a_x_BadNews D.d_x_BadNews ["self", "index"] (spX K D.c_BadNews "index") := ok_xinit T.x_BadNews sc_x3 rfl rfl rfl (by decide) (by decide)
/-- raise C(i), read -/
theorem raise_read {C : Addr} {i : V} {σ : L2.St} {H : Hp} {m : Nat} {E : XK} (hm : σ[m]? = some (some i)) (hE : ∀ d, H d = none → E (.ref C) (some d) (upd H d (.xd [("index", i)]))) :
    tMkO C (spX K C "index") [] (tCons (tVar m) tNil) σ H (fun cls d H' => E cls d H') := by
  refine ⟨i, hm, by show 1 ≤ 1000; decide, fun a ha => ⟨a, i, rfl, upd_same, fun dx hdx ne => ⟨rfl, dx, _, upd_same, by rw [upd_ne ne, upd_same], ?_, ?_⟩⟩⟩
  · rw [upd_ne ne] at hdx; exact hdx
  · rw [err_heap ha ne]
    rw [upd_ne ne] at hdx
    exact hE dx hdx
/-! ### check_people, check_ties, check_news -/
def spErr (C : Addr) (o : V) (H : Hp) (Q : VK) (E : XK) : Prop := (o = .non → ∀ H', Same H H' → Q .non H') ∧ (o ≠ .non → ∀ H' d, Same H H' → H' d = none → E (.ref C) (some d) (upd H' d (.xd [("index", o)])))
def sp_check_people (K : PySem.W.Frag) (C : Addr) : Sp := fun vs H Q E => ∃ v o, vs = [v] ∧ FBN K H v o ∧ spErr C o H Q E
theorem sc_check_people : FnScope ["people", "index"] ["people"] (defScope s_check_people) := ⟨rfl, rfl, rfl, by decide +kernel, rfl, by decide +kernel, by decide +kernel⟩
theorem ok_check_people (T : Txt K mg D) : FnOk P w K mg base (L2.CX P w) 3 D.a_check_people D.d_check_people ["people"] (sp_check_people K D.c_BadPeople) := by
  have G1 : FnOk P w K mg base CX0 2 D.a_first_bad_name D.d_first_bad_name ["people"] (sp_first_bad_name K) := ok_first_bad_name T
  have G2 : FnOk P w K mg base CX0 1 D.a_x_BadPeople D.d_x_BadPeople ["self", "index"] (spX K D.c_BadPeople "index") := ok_x1 T
  have nd := sc_check_people.nd
  refine T.F_check_people.okX sc_check_people (fun vs H Q E h => ?_) (fun cdv A outer s H vs Q E hr h => ?_)
  · obtain ⟨v, o, rfl, _⟩ := h
    rfl
  · obtain ⟨v, o, rfl, fb, qn, qe⟩ := h
    refine ⟨_, pss_cons (ps_set (i := 1) nd rfl (Or.inl rfl) (pe_call G1 hr rfl T.g_first_bad_name T.F_first_bad_name.kp T.b_first_bad_name .nil pass0 (pa_cons (pv 0) pa_nil)))
      (pss_one (ps_if (pt_cmpR op_notN (pv 1) pe_non (nomark _)) (pss_one (ps_raise rfl (takes_of rfl rfl rfl rfl) (pmk_oex T.x_BadPeople.ox T.x_BadPeople.iC T.x_BadPeople.tI G2 hr T.x_BadPeople.b .nil pass0 rfl T.x_BadPeople.gC (pa_cons (pv 1) pa_nil)))) pss_nil)), ?_⟩
    refine ⟨_, rfl, v, o, rfl, fb, fun H1 s1 => ⟨_, rfl, rfl, _, rfl, ?_⟩⟩
    by_cases ho : o = .non
    · subst ho
      exact iteF (qn rfl _ s1)
    · rw [decide_eq_false ho]
      exact iteT (raise_read rfl fun d hd => qe ho _ d s1 hd)
def sp_check_ties (K : PySem.W.Frag) (C : Addr) : Sp := fun vs H Q E => ∃ (pa : Addr) (v : V) (ns : List Str) (o : V), vs = [.ref pa, v] ∧ SeqV K H pa (ns.map V.str) ∧ ns.Nodup ∧ ns.length ≤ 1000 ∧ FBT K H ns v o ∧ spErr C o H Q E
theorem sc_check_ties : FnScope ["people", "ties", "index"] ["people", "ties"] (defScope s_check_ties) := ⟨rfl, rfl, rfl, by decide +kernel, rfl, by decide +kernel, by decide +kernel⟩
theorem ok_check_ties (T : Txt K mg D) : FnOk P w K mg base (L2.CX P w) 4 D.a_check_ties D.d_check_ties ["people", "ties"] (sp_check_ties K D.c_BadTies) := by
  have G1 : FnOk P w K mg base CX0 3 D.a_first_bad_tie D.d_first_bad_tie ["people", "ties"] (sp_first_bad_tie K) := ok_first_bad_tie T
  have G2 : FnOk P w K mg base CX0 1 D.a_x_BadTies D.d_x_BadTies ["self", "index"] (spX K D.c_BadTies "index") := ok_x2 T
  have nd := sc_check_ties.nd
  refine T.F_check_ties.okX sc_check_ties (fun vs H Q E h => ?_) (fun cdv A outer s H vs Q E hr h => ?_)
  · obtain ⟨pa, v, ns, o, rfl, _⟩ := h
    rfl
  · obtain ⟨pa, v, ns, o, rfl, hp, hn, hl, fb, qn, qe⟩ := h
    refine ⟨_, pss_cons (ps_set (i := 2) nd rfl (Or.inl rfl) (pe_call G1 hr rfl T.g_first_bad_tie T.F_first_bad_tie.kp T.b_first_bad_tie .nil pass0 (pa_cons (pv 0) (pa_cons (pv 1) pa_nil))))
      (pss_one (ps_if (pt_cmpR op_notN (pv 2) pe_non (nomark _)) (pss_one (ps_raise rfl (takes_of rfl rfl rfl rfl) (pmk_oex T.x_BadTies.ox T.x_BadTies.iC T.x_BadTies.tI G2 (hr.mono (by decide)) T.x_BadTies.b .nil pass0 rfl T.x_BadTies.gC (pa_cons (pv 2) pa_nil)))) pss_nil)), ?_⟩
    refine ⟨_, rfl, _, rfl, pa, v, ns, o, rfl, hp, hn, hl, fb, fun H1 s1 => ⟨_, rfl, rfl, _, rfl, ?_⟩⟩
    by_cases ho : o = .non
    · subst ho
      exact iteF (qn rfl _ s1)
    · rw [decide_eq_false ho]
      exact iteT (raise_read rfl fun d hd => qe ho _ d s1 hd)
def sp_check_news (K : PySem.W.Frag) (C : Addr) : Sp := fun vs H Q E => ∃ (pa : Addr) (v : V) (xs : List V) (o : V), vs = [.ref pa, v] ∧ SeqV K H pa xs ∧ FBA K H xs.length v o ∧ spErr C o H Q E
theorem sc_check_news : FnScope ["people", "news", "index"] ["people", "news"] (defScope s_check_news) := ⟨rfl, rfl, rfl, by decide +kernel, rfl, by decide +kernel, by decide +kernel⟩
theorem ok_check_news (T : Txt K mg D) : FnOk P w K mg base (L2.CX P w) 3 D.a_check_news D.d_check_news ["people", "news"] (sp_check_news K D.c_BadNews) := by
  have G1 : FnOk P w K mg base CX0 2 D.a_first_bad_amount D.d_first_bad_amount ["many", "amounts", "least"] (sp_first_bad_amount K) := ok_first_bad_amount T
  have G2 : FnOk P w K mg base CX0 1 D.a_x_BadNews D.d_x_BadNews ["self", "index"] (spX K D.c_BadNews "index") := ok_x3 T
  have nd := sc_check_news.nd
  refine T.F_check_news.okX sc_check_news (fun vs H Q E h => ?_) (fun cdv A outer s H vs Q E hr h => ?_)
  · obtain ⟨pa, v, xs, o, rfl, _⟩ := h
    rfl
  · obtain ⟨pa, v, xs, o, rfl, hp, fb, qn, qe⟩ := h
    refine ⟨_, pss_cons (ps_set (i := 2) nd rfl (Or.inl rfl) (pe_call G1 hr rfl T.g_first_bad_amount T.F_first_bad_amount.kp T.b_first_bad_amount .nil pass0 (pa_cons (pe_callB call_len_seq (by rfl) T.z_len PySem.boot_len (pa_cons (pv 0) pa_nil)) (pa_cons (pv 1) (pa_cons pe_int pa_nil)))))
      (pss_one (ps_if (pt_cmpR op_notN (pv 2) pe_non (nomark _)) (pss_one (ps_raise rfl (takes_of rfl rfl rfl rfl) (pmk_oex T.x_BadNews.ox T.x_BadNews.iC T.x_BadNews.tI G2 (hr.mono (by decide)) T.x_BadNews.b .nil pass0 rfl T.x_BadNews.gC (pa_cons (pv 2) pa_nil)))) pss_nil)), ?_⟩
    refine ⟨_, rfl, pa, xs, rfl, hp, _, rfl, xs.length, v, o, rfl, fb, fun H1 s1 => ⟨_, rfl, rfl, _, rfl, ?_⟩⟩
    by_cases ho : o = .non
    · subst ho
      exact iteF (qn rfl _ s1)
    · rw [decide_eq_false ho]
      exact iteT (raise_read rfl fun d hd => qe ho _ d s1 hd)
end
end HS

set_option maxHeartbeats 4000000
namespace HS
open PySem PySem.Spec L2
/-! ### friends_by_ties -/
def adjB (es : List (Str × Str)) (z v : Str) : Bool := es.any fun e => (decide (e.1 = z) && decide (e.2 = v)) || (decide (e.2 = z) && decide (e.1 = v))
theorem adjB_snoc (es : List (Str × Str)) (e : Str × Str) (z v : Str) : adjB (es ++ [e]) z v = (adjB es z v || ((decide (e.1 = z) && decide (e.2 = v)) || (decide (e.2 = z) && decide (e.1 = v)))) := by simp [adjB]
/-- a list of pairs that are tuples -/
def TupsAt (K : PySem.W.Frag) (H : Hp) (ts : List V) (es : List (Str × Str)) : Prop := ts.length = es.length ∧ ∀ (i : Nat) v e, ts[i]? = some v → es[i]? = some e → ∃ a, v = .ref a ∧ SqT K H a [.str e.1, .str e.2]
theorem TupsAt.same {K : PySem.W.Frag} {H H' : Hp} {ts : List V} {es : List (Str × Str)} (s : Same H H') (h : TupsAt K H ts es) : TupsAt K H' ts es := ⟨h.1, fun i v e a b => let ⟨p, x, y⟩ := h.2 i v e a b; ⟨p, x, SqT.same s y⟩⟩
/-- the tables of who is tied, as they are filled -/
structure Tied (H0 H : Hp) (d : Addr) (ns : List Str) (f : Str → Str → Bool) (L : Nat) (qa : Str → Addr) : Prop where
  same : Same H0 H
  d0 : H0 d = none
  dd : H d = some (.dK (kvF (fun z => .ref (qa z)) ns))
  q0 : ∀ z ∈ ns, H0 (qa z) = none ∧ qa z ≠ d
  inj : ∀ z ∈ ns, ∀ v ∈ ns, qa z = qa v → z = v
  at_ : ∀ z ∈ ns, ∃ kvs, H (qa z) = some (.dK kvs) ∧ kvs.length ≤ L ∧ ∀ v, (valV kvs (.inr v)).isSome = f z v
/-- one more name in the table of one -/
theorem put_some (kvs : List (Key × V)) (x v : Str) (y : V) : (valV (putK kvs (.inr x) y) (.inr v)).isSome = ((valV kvs (.inr v)).isSome || decide (x = v)) := by
  rw [valV_put]
  by_cases e : v = x
  · subst e; simp
  · have : ¬ (Sum.inr v : Key) = Sum.inr x := fun q => e (Sum.inr.inj q)
    rw [if_neg this, decide_eq_false (fun q => e q.symm), Bool.or_false]
theorem putK_len' (c : List (Key × V)) (k : Key) (x : V) : (putK c k x).length ≤ c.length + 1 := by
  unfold putK
  split
  · rw [List.length_map]; omega
  · rw [List.length_append]; exact Nat.le_refl _
theorem small5000 {n : Nat} (h : n ≤ 5000) : n < sizeLine := Nat.lt_of_le_of_lt h (by decide)
theorem Tied.put {H0 H : Hp} {d : Addr} {ns : List Str} {f : Str → Str → Bool} {L : Nat} {qa : Str → Addr} (T : Tied H0 H d ns f L qa) {x v : Str} {y : V} (hx : x ∈ ns) {kvs : List (Key × V)} (e : H (qa x) = some (.dK kvs)) :
    Tied H0 (upd H (qa x) (.dK (putK kvs (.inr v) y))) d ns (fun z u => f z u || (decide (x = z) && decide (v = u))) (L + 1) qa := by
  refine ⟨same_upd T.same (T.q0 x hx).1, T.d0, by rw [upd_ne (T.q0 x hx).2.symm]; exact T.dd, T.q0, T.inj, fun z hz => ?_⟩
  obtain ⟨kz, e1, l1, f1⟩ := T.at_ z hz
  by_cases hzx : x = z
  · subst hzx
    rw [e] at e1
    have e1 := HO.dK.inj (Option.some.inj e1)
    subst e1
    refine ⟨_, upd_same, Nat.le_trans (putK_len' _ _ _) (by omega), fun u => ?_⟩
    rw [put_some, f1, decide_eq_true rfl, Bool.true_and]
  · refine ⟨kz, ?_, by omega, fun u => ?_⟩
    · rw [upd_ne (fun q => hzx (T.inj z hz x hx q).symm)]; exact e1
    · rw [f1, decide_eq_false hzx, Bool.false_and, Bool.or_false]
theorem Tied.of {H0 H : Hp} {d : Addr} {ns : List Str} {f g : Str → Str → Bool} {L M : Nat} {qa : Str → Addr} (T : Tied H0 H d ns f L qa) (h : ∀ z v, f z v = g z v) (hl : L ≤ M) : Tied H0 H d ns g M qa :=
  ⟨T.same, T.d0, T.dd, T.q0, T.inj, fun z hz => let ⟨k, a, b, c⟩ := T.at_ z hz; ⟨k, a, Nat.le_trans b hl, fun v => (c v).trans (h z v)⟩⟩
theorem range_filter_map {α β : Type} (l : List α) (d : α) (p : α → Bool) (g : α → β) : ((List.range l.length).filter (fun i => p (l.getD i d))).map (fun i => g (l.getD i d)) = (l.filter p).map g := by
  have h0 : (List.range l.length).map (fun i => l.getD i d) = l := by
    apply List.ext_getElem
    · simp
    · intro i h1 h2
      simp [h2]
  have h1 : (l.filter p).map g = (((List.range l.length).map (fun i => l.getD i d)).filter p).map g := by rw [h0]
  rw [h1, List.filter_map, List.map_map]
  rfl
/-- a comprehension that only makes objects, with what follows in hand -/
theorem lc_growC {J : It} {n : Nat} {G : Hp → Prop} {Y : Nat → Hp → V → Hp → Prop} (w : Walk J n G Y) {g : TG} {tt : TT} {te : TE} {vs : List Nat} {σ : L2.St} {H1 : Hp} {D : Addr} {Qd : Hp → Prop} (p : Nat → Bool) (f : Nat → V) (hD : H1 D = none) (hn : n ≤ 1000000)
    (hG : ∀ H, Same H1 H → G H)
    (hs : ∀ i x H H', i < n → Same H1 H → Y i H x H' → ∀ (N0 : Hp → Prop) (N1 : V → Hp → Prop), (∀ H3, p i = false → Same H H3 → N0 H3) → (∀ H4, p i = true → Same H H4 → N1 (f i) H4) →
      g x (wipe σ vs) H' fun σ2 H2 => wipe σ2 vs = wipe σ vs ∧ tt σ2 H2 fun b H3 => if b = true then te σ2 H3 N1 else N0 H3)
    (hd : ∀ H, Same H1 H → H D = some (.lst (((List.range n).filter p).map f)) → Qd H) :
    ∃ W : Nat → Nat → Hp → Prop, (∃ m, W 0 m (upd H1 D (.lst []))) ∧ ∀ i m H, W i m H →
      (J.stop i H ∧ Qd H) ∨ (J.go i H ∧ ∃ Nx : Hp → Prop, (∀ H', Nx H' → ∃ m', m' < m ∧ W (i + 1) m' H') ∧ ∀ x H', J.yld i H x H' → g x (wipe σ vs) H' fun σ2 H2 => wipe σ2 vs = wipe σ vs ∧ tt σ2 H2 fun b H3 =>
        if b = true then te σ2 H3 fun y H4 => ∃ acc, H4 D = some (.lst acc) ∧ acc.length < sizeLine ∧ Nx (upd H4 D (.lst (acc ++ [y]))) else Nx H3) := by
  refine lc_it w (fun i H => i ≤ n ∧ Same H1 H ∧ H D = some (.lst (((List.range i).filter p).map f))) ⟨Nat.zero_le _, same_new hD, upd_same⟩ (fun i H _ q => hG H q.2.1) (fun i x H H' hi q y => ?_) fun H q => hd H q.2.1 q.2.2
  obtain ⟨_, q1, q2⟩ := q
  refine hs i x H H' hi q1 y _ _ (fun H3 hp s3 => ?_) (fun H4 hp s4 => ?_)
  · refine ⟨hi, q1.trans s3, ?_⟩
    rw [s3 _ _ q2, range_snoc, List.filter_append]
    simp [hp]
  · have e4 := s4 _ _ q2
    refine ⟨_, e4, ?_, hi, same_upd (q1.trans s4) hD, ?_⟩
    · rw [List.length_map]
      have h1 := List.length_filter_le p (List.range i)
      rw [List.length_range] at h1
      have h2 : (1000000 : Nat) < sizeLine := by decide
      omega
    · rw [upd_same, range_snoc, List.filter_append, List.map_append]
      simp [hp]
section
variable {P : Program} {w : World} {K : PySem.W.Frag} {mg : Str → Option Value} {base : Heap} {D : Ads}
theorem pi_listK {X : Cx} {l tg : Expr} {tl : TE} (hK : X.K = K) (he : PE X l tl) : PI X tg l (iList K tl) := by
  subst hK
  exact pi_list he
def sp_friends_by_ties (K : PySem.W.Frag) : Sp := fun vs H Q _ => ∃ (pa pt : Addr) (ns : List Str) (ts : List V) (es : List (Str × Str)), vs = [.ref pa, .ref pt] ∧ SqL K H pa (ns.map V.str) ∧ SqL K H pt ts ∧ TupsAt K H ts es ∧ ns.Nodup ∧ ns.length ≤ 1000 ∧ es.length ≤ 1000 ∧
  (∀ e ∈ es, e.1 ∈ ns ∧ e.2 ∈ ns) ∧ ∀ H' p (la : Str → Addr), Same H H' → H p = none → H' p = some (.dK (kvF (fun z => .ref (la z)) ns)) → (∀ z ∈ ns, H (la z) = none ∧ H' (la z) = some (.lst ((ns.filter (adjB es z)).map V.str))) → Q (.ref p) H'
theorem sc_friends_by_ties : FnScope ["people", "ties", "tied", "one", "other", "person", "friend"] ["people", "ties"] (defScope s_friends_by_ties) := ⟨rfl, rfl, rfl, by decide +kernel, rfl, by decide +kernel, by decide +kernel⟩
theorem ok_friends_by_ties (T : Txt K mg D) : FnOk P w K mg base CX0 1 D.a_friends_by_ties D.d_friends_by_ties ["people", "ties"] (sp_friends_by_ties K) := by
  have nd := sc_friends_by_ties.nd
  refine T.F_friends_by_ties.ok sc_friends_by_ties (fun vs H Q E h => ?_) (fun cdv A outer s H vs Q E hr h => ?_)
  · obtain ⟨pa, pt, ns, ts, es, rfl, _⟩ := h
    rfl
  · obtain ⟨pa, pt, ns, ts, es, rfl, hp, ht, hte, hn, hl, hl2, hm, k⟩ := h
    have hu := hu_of hr
    refine' ⟨_, pss_cons (ps_set (i := 2) nd rfl (Or.inr rfl) (pe_dc (own := [("person", 5)]) (g := gName 5) (tt := tYes) rfl nd (pi_list (pv 0)) (blkOk_by (N := ["people", "ties", "tied", "one", "other", "person", "friend"]) (sc := defScope s_friends_by_ties) (by decide +kernel))
          (fun _ _ _ _ _ => pg_name (i := 5) nd rfl (Or.inl rfl)) (fun _ _ _ _ _ => pts_nil) (fun _ _ _ _ _ => pv 5) (fun _ _ _ _ _ => pe_dnewK)))
      (pss_cons (ps_for PassesOwn.never rfl (pi_list (pv 1)) (pg_tup (by rfl) (pgs_cons (pg_name (i := 3) nd rfl (Or.inl rfl)) (pgs_cons (pg_name (i := 4) nd rfl (Or.inl rfl)) pgs_nil)))
        (pss_cons (ps_dput hu (pe_dget hu (pv 2) (pv 3) (fun _ _ => rfl)) (pv 4) pe_bl rfl) (pss_one (ps_dput hu (pe_dget hu (pv 2) (pv 4) (fun _ _ => rfl)) (pv 3) pe_bl rfl))))
      (pss_one (ps_ret (pe_dc (own := [("person", 5)]) (g := gName 5) (tt := tYes) rfl nd (pi_list (pv 0)) (blkOk_by (N := ["people", "ties", "tied", "one", "other", "person", "friend"]) (sc := defScope s_friends_by_ties) (by decide +kernel))
          (fun _ _ _ _ _ => pg_name (i := 5) nd rfl (Or.inr rfl)) (fun _ _ _ _ _ => pts_nil) (fun _ _ _ _ _ => pv 5) ?inner)))), ?_⟩
    case inner =>
      exact fun _ _ _ _ _ => pe_lc (own := [("friend", 6)]) (g := gName 6) rfl nd (pi_listK (K := K) rfl (pv 0)) (blkOk_by (N := ["people", "ties", "tied", "one", "other", "person", "friend"]) (sc := { kind := .function, names := [(".0", .local), ("person", .cell), ("people", .cell), ("tied", .cell)], isGenerator := false, isCoroutine := false }) (own := [("friend", 6)]) (by decide +kernel))
            (fun _ _ _ _ _ => pg_name (i := 6) nd rfl (Or.inl rfl)) (fun _ _ _ _ _ => pts_one (pt_cmp (pc_din hu (pv 6) (pe_dget hu (pv 2) (pv 5) (fun _ _ => rfl))))) (fun _ _ _ _ _ => pv 6)
    have nz : ∀ i, (h : i < ns.length) → ∃ z, ns[i]? = some z := fun i h => ⟨ns[i], by simp [h]⟩
    have xz : ∀ {i : Nat} {x : V} {z : Str}, ns[i]? = some z → (ns.map V.str)[i]? = some x → x = .str z := fun {i x z} hz hx => by
      rw [List.getElem?_map, hz] at hx
      exact (Option.some.inj hx).symm
    refine ⟨_, rfl, pa, rfl, ⟨_, hp⟩, fun d hd0 => ?_⟩
    refine dc_it (walk_list (xs := ns.map V.str)) (fun i H' => i ≤ ns.length ∧ Same H H' ∧ ∃ qa : Str → Addr, H' d = some (.dK (kvF (fun z => .ref (qa z)) (ns.take i))) ∧ ∀ z ∈ ns.take i, (H (qa z) = none ∧ qa z ≠ d) ∧ H' (qa z) = some (.dK []) ∧ ∀ v ∈ ns.take i, qa z = qa v → z = v)
      ⟨Nat.zero_le _, same_new hd0, fun _ => d, upd_same, fun z m => by simp at m⟩ (fun i H' _ p => p.2.1.seq hp) (fun i x H2 H3 hi p y => ?_) fun H2 p => ?_
    · obtain ⟨rfl, hx⟩ := y
      obtain ⟨_, s2, qa, e2, h2⟩ := p
      rw [List.length_map] at hi
      obtain ⟨z, hz⟩ := nz i hi
      have ex := xz hz hx
      subst ex
      have nin := nodup_take hn hz
      refine ⟨rfl, _, rfl, fun q hq => ?_⟩
      have qd : q ≠ d := (ne_of_none e2 hq).symm
      refine ⟨_, Sum.inr z, rfl, by rw [upd_ne qd.symm]; exact e2, by rw [kvF_len, List.length_take]; exact small1000 (by omega), hi, same_upd (Same.new' s2 hq) hd0, fun v => if v = z then q else qa v, ?_, fun v hv => ?_⟩
      · rw [upd_same, take_snoc hz]
        have e3 : kvF (fun v => V.ref (qa v)) (ns.take i) = kvF (fun v => V.ref (if v = z then q else qa v)) (ns.take i) := kvF_congr fun v hv => by
          rw [if_neg (show ¬ v = z from fun w0 => nin (w0 ▸ hv))]
        rw [e3]
        have := kvF_snoc (f := fun v => V.ref (if v = z then q else qa v)) nin
        rw [if_pos rfl] at this
        rw [this]
      · dsimp only
        have old : ∀ v, v ∈ ns.take i → v ≠ z ∧ qa v ≠ q := fun v hv => ⟨fun w0 => nin (w0 ▸ hv), ne_of_none (h2 v hv).2.1 hq⟩
        rcases (take_mem hz).mp hv with hv | hv
        · obtain ⟨⟨a1, a2⟩, a3, a4⟩ := h2 v hv
          obtain ⟨n1, n2⟩ := old v hv
          rw [if_neg n1]
          refine ⟨⟨a1, a2⟩, by rw [upd_ne a2, upd_ne n2]; exact a3, fun u hu eu => ?_⟩
          rcases (take_mem hz).mp hu with hu | hu
          · rw [if_neg (old u hu).1] at eu
            exact a4 u hu eu
          · rw [if_pos hu] at eu
            exact absurd eu n2
        · rw [if_pos hv]
          refine ⟨⟨s2.free hq, qd⟩, by rw [upd_ne qd, upd_same], fun u hu eu => ?_⟩
          rcases (take_mem hz).mp hu with hu | hu
          · rw [if_neg (old u hu).1] at eu
            exact absurd eu.symm (old u hu).2
          · rw [hv, hu]
    · obtain ⟨_, s2, qa, e2, h2⟩ := p
      rw [List.length_map, List.take_length] at e2 h2
      have T0 : Tied H H2 d ns (adjB []) 0 qa := ⟨s2, hd0, e2, fun z hz => (h2 z hz).1, fun z hz v hv => (h2 z hz).2.2 v hv, fun z hz => ⟨[], (h2 z hz).2.1, Nat.le_refl _, fun v => rfl⟩⟩
      refine ⟨_, rfl, pt, rfl, ⟨_, s2.seq ht⟩, for_it (walk_list (xs := ts)) (fun i σ H' => i ≤ es.length ∧ Tied H H' d ns (adjB (es.take i)) (2 * i) qa ∧ ∃ v3 v4, σ = [some (.ref pa), some (.ref pt), some (.ref d), v3, v4, none, none]) ⟨Nat.zero_le _, T0, none, none, rfl⟩ (fun i σ' H' _ p => p.2.1.same.seq ht) ?_ ?_⟩
      · rintro i x σ' H' H'' hi ⟨_, Tt, v3, v4, rfl⟩ ⟨rfl, hx⟩
        rw [hte.1] at hi
        obtain ⟨e, he⟩ : ∃ e, es[i]? = some e := ⟨es[i], by simp [hi]⟩
        obtain ⟨a, rfl, ha⟩ := hte.2 i x e hx he
        obtain ⟨m1, m2⟩ := hm e (List.mem_of_getElem? he)
        obtain ⟨k1, c1, l1, f1⟩ := Tt.at_ e.1 m1
        refine ⟨a, _, rfl, SqT.same Tt.same ha, rfl, _, _, rfl, _, _, rfl, rfl, ?_⟩
        refine ⟨_, rfl, _, rfl, d, .ref (qa e.1), rfl, ?_, _, rfl, qa e.1, _, rfl, DPut.k (k := Sum.inr e.2) c1 (small5000 (by omega)), ?_⟩
        · have := DGet.k (k := Sum.inr e.1) Tt.dd
          rw [kvF_in m1] at this; exact this
        have T1 := Tt.put (v := e.2) (y := .bl true) m1 c1
        obtain ⟨k2, c2, l2, f2⟩ := T1.at_ e.2 m2
        refine ⟨_, rfl, _, rfl, d, .ref (qa e.2), rfl, ?_, _, rfl, qa e.2, _, rfl, DPut.k (k := Sum.inr e.1) c2 (small5000 (by omega)), ?_⟩
        · have := DGet.k (k := Sum.inr e.2) T1.dd
          rw [kvF_in m2] at this; exact this
        refine ⟨hi, (T1.put (v := e.1) (y := .bl true) m2 c2).of (fun z v => ?_) (by omega), _, _, rfl⟩
        rw [take_snoc he, adjB_snoc, Bool.or_assoc]
      · rintro σ' H3 ⟨_, Tt, v3, v4, rfl⟩
        rw [hte.1, List.take_length] at Tt
        refine ⟨_, rfl, pa, rfl, ⟨_, Tt.same.seq hp⟩, fun D2 hD2 => ?_⟩
        refine dc_it (walk_list (xs := ns.map V.str)) (fun i H' => i ≤ ns.length ∧ Same H3 H' ∧ ∃ la : Str → Addr, H' D2 = some (.dK (kvF (fun z => .ref (la z)) (ns.take i))) ∧ ∀ z ∈ ns.take i, (la z ≠ D2 ∧ H (la z) = none) ∧ H' (la z) = some (.lst ((ns.filter (adjB es z)).map V.str)))
          ⟨Nat.zero_le _, same_new hD2, fun _ => D2, upd_same, fun z m => by simp at m⟩ (fun i H' _ p => p.2.1.seq (Tt.same.seq hp)) (fun i x H4 H5 hi p y => ?_) fun H4 p => ?_
        · obtain ⟨rfl, hx⟩ := y
          obtain ⟨_, s4, la, e4, h4⟩ := p
          rw [List.length_map] at hi
          obtain ⟨z, hz⟩ := nz i hi
          have ex := xz hz hx
          subst ex
          have nin := nodup_take hn hz
          have hzm : z ∈ ns := List.mem_of_getElem? hz
          have sH4 : Same H _ := Tt.same.trans s4
          refine ⟨rfl, _, rfl, _, rfl, pa, rfl, ⟨_, sH4.seq hp⟩, fun L hL => ?_⟩
          refine lc_growC (walk_list (xs := ns.map V.str)) (fun j => adjB es z (ns.getD j "")) (fun j => V.str (ns.getD j "")) hL (by rw [List.length_map]; omega) (fun H6 s6 => (sH4.trans s6).seq hp) (fun j y H6 H7 hj s6 yy N0 N1 h0 h1 => ?_) fun H6 s6 e6 => ?_
          · obtain ⟨rfl, hy⟩ := yy
            rw [List.length_map] at hj
            obtain ⟨u, hu'⟩ := nz j hj
            have ey := xz hu' hy
            subst ey
            have eg : ns.getD j "" = u := by rw [List.getD_eq_getElem?_getD, hu']; rfl
            have s7 := s4.trans s6
            obtain ⟨kz, c1, _, f1⟩ := Tt.at_ z hzm
            refine ⟨rfl, _, rfl, _, rfl, _, rfl, d, .ref (qa z), rfl, ?_, qa z, _, rfl, DGet.k (k := Sum.inr u) (s7 _ _ c1), _, rfl, ?_⟩
            · have := DGet.k (k := Sum.inr z) (s7 _ _ Tt.dd)
              rw [kvF_in hzm] at this; exact this
            rw [f1 u]
            refine ite2 (fun c => ?_) (fun c => ?_)
            · have := h1 _ (by rw [eg]; exact c) (Same.refl _)
              rw [eg] at this
              exact ⟨_, rfl, this⟩
            · exact h0 _ (by rw [eg]; exact Bool.eq_false_iff.mpr c) (Same.refl _)
          · rw [List.length_map, range_filter_map] at e6
            have eD2 := s6 _ _ e4
            have LD2 : L ≠ D2 := (ne_of_none e4 hL).symm
            refine ⟨_, Sum.inr z, rfl, eD2, by rw [kvF_len, List.length_take]; exact small1000 (by omega), hi, same_upd (s4.trans s6) hD2, fun v => if v = z then L else la v, ?_, fun v hv => ?_⟩
            · rw [upd_same, take_snoc hz]
              have e3 : kvF (fun v => V.ref (la v)) (ns.take i) = kvF (fun v => V.ref (if v = z then L else la v)) (ns.take i) := kvF_congr fun v hv => by
                rw [if_neg (show ¬ v = z from fun w0 => nin (w0 ▸ hv))]
              rw [e3]
              have := kvF_snoc (f := fun v => V.ref (if v = z then L else la v)) nin
              rw [if_pos rfl] at this
              rw [this]
            · dsimp only
              rcases (take_mem hz).mp hv with hv | hv
              · obtain ⟨a1, a2⟩ := h4 v hv
                rw [if_neg (show ¬ v = z from fun w0 => nin (w0 ▸ hv))]
                exact ⟨a1, by rw [upd_ne a1.1]; exact s6 _ _ a2⟩
              · rw [if_pos hv, hv]
                exact ⟨⟨LD2, sH4.free hL⟩, by rw [upd_ne LD2]; exact e6⟩
        · obtain ⟨_, s4, la, e4, h4⟩ := p
          rw [List.length_map, List.take_length] at e4 h4
          exact k _ D2 la (Tt.same.trans s4) (Tt.same.free hD2) e4 fun z hz => ⟨(h4 z hz).1.2, (h4 z hz).2⟩
end
end HS

set_option maxHeartbeats 4000000
namespace HS
open PySem PySem.Spec L2
/-! ### villages -/
theorem putF_ne {f g : Str} {v u : V} {r : List (Str × V)} (h : ¬ g = f) : putF f v ((g, u) :: r) = (g, u) :: putF f v r := by
  show (if g = f then _ else _) = _
  rw [if_neg h]
theorem putF_nil {f : Str} {v : V} : putF f v [] = [(f, v)] := rfl
def vf (pp pt pw pf : Addr) : List (Str × V) := [("_people", .ref pp), ("_ties", .ref pt), ("_news", .ref pw), ("_friends", .ref pf)]
theorem n1 : ¬ ("_people" : Str) = "_ties" := by decide +kernel
theorem n2 : ¬ ("_people" : Str) = "_news" := by decide +kernel
theorem n3 : ¬ ("_people" : Str) = "_friends" := by decide +kernel
theorem n4 : ¬ ("_ties" : Str) = "_news" := by decide +kernel
theorem n5 : ¬ ("_ties" : Str) = "_friends" := by decide +kernel
theorem n6 : ¬ ("_news" : Str) = "_friends" := by decide +kernel
def vfa (pp : Addr) : List (Str × V) := [("_people", .ref pp)]
def vfb (pp pt : Addr) : List (Str × V) := [("_people", .ref pp), ("_ties", .ref pt)]
def vfc (pp pt pw : Addr) : List (Str × V) := [("_people", .ref pp), ("_ties", .ref pt), ("_news", .ref pw)]
theorem vf1 (pp : Addr) : putF "_people" (.ref pp) [] = vfa pp := rfl
theorem vf2 (pp pt : Addr) : putF "_ties" (.ref pt) (vfa pp) = vfb pp pt := by unfold vfa; rw [putF_ne n1, putF_nil]; rfl
theorem vf3 (pp pt pw : Addr) : putF "_news" (.ref pw) (vfb pp pt) = vfc pp pt pw := by unfold vfb; rw [putF_ne n2, putF_ne n4, putF_nil]; rfl
theorem vf4 (pp pt pw pf : Addr) : putF "_friends" (.ref pf) (vfc pp pt pw) = vf pp pt pw pf := by unfold vfc; rw [putF_ne n3, putF_ne n5, putF_ne n6, putF_nil]; rfl
theorem lk_ne {g f : Str} {u : V} {r : List (Str × V)} (h : ¬ f = g) : ((g, u) :: r).lookup f = r.lookup f := by
  have : (f == g) = false := by simpa using h
  simp [List.lookup, this]
theorem vfc_p (pp pt pw : Addr) : (vfc pp pt pw).lookup ("_people" : Str) = some (.ref pp) := by simp [vfc, List.lookup]
theorem lk_eq {f : Str} {u : V} {r : List (Str × V)} : ((f, u) :: r).lookup f = some u := by simp [List.lookup]
theorem vfc_t (pp pt pw : Addr) : (vfc pp pt pw).lookup ("_ties" : Str) = some (.ref pt) := by unfold vfc; rw [lk_ne (fun e => n1 e.symm), lk_eq]
theorem vf_p (pp pt pw pf : Addr) : (vf pp pt pw pf).lookup ("_people" : Str) = some (.ref pp) := lk_eq
theorem vf_t (pp pt pw pf : Addr) : (vf pp pt pw pf).lookup ("_ties" : Str) = some (.ref pt) := by unfold vf; rw [lk_ne (fun e => n1 e.symm), lk_eq]
theorem vf_w (pp pt pw pf : Addr) : (vf pp pt pw pf).lookup ("_news" : Str) = some (.ref pw) := by unfold vf; rw [lk_ne (fun e => n2 e.symm), lk_ne (fun e => n4 e.symm), lk_eq]
theorem vf_f (pp pt pw pf : Addr) : (vf pp pt pw pf).lookup ("_friends" : Str) = some (.ref pf) := by unfold vf; rw [lk_ne (fun e => n3 e.symm), lk_ne (fun e => n5 e.symm), lk_ne (fun e => n6 e.symm), lk_eq]
/-- a village stands at x -/
structure Vil (K : PySem.W.Frag) (C : Addr) (H : Hp) (x : Addr) (ns : List Str) (es : List (Str × Str)) (ws : List Int) : Prop where
  ex : ∃ (dx pp pt pw pf : Addr) (ts : List V) (la : Str → Addr), H x = some (.ins C dx (vf pp pt pw pf)) ∧ H pp = some (.lst (ns.map V.str)) ∧ H pt = some (.lst ts) ∧ TupsAt K H ts es ∧ H pw = some (.lst (ws.map V.int)) ∧
    H pf = some (.dK (kvF (fun z => .ref (la z)) ns)) ∧ ∀ z ∈ ns, H (la z) = some (.lst ((ns.filter (adjB es z)).map V.str))
theorem Vil.same {K : PySem.W.Frag} {C : Addr} {H H' : Hp} {x : Addr} {ns : List Str} {es : List (Str × Str)} {ws : List Int} (s : Same H H') (h : Vil K C H x ns es ws) : Vil K C H' x ns es ws := by
  obtain ⟨dx, pp, pt, pw, pf, ts, la, a, b, c, d, e, f, g⟩ := h.ex
  exact ⟨dx, pp, pt, pw, pf, ts, la, s _ _ a, s _ _ b, s _ _ c, d.same s, s _ _ e, s _ _ f, fun z hz => s _ _ (g z hz)⟩
theorem TupsAt.snoc {K : PySem.W.Frag} {H : Hp} {ts : List V} {es : List (Str × Str)} {e : Str × Str} {p : Addr} (h : TupsAt K H ts es) (hp : SqT K H p [.str e.1, .str e.2]) : TupsAt K H (ts ++ [.ref p]) (es ++ [e]) := by
  refine ⟨by rw [List.length_append, List.length_append, h.1]; rfl, fun i v f hv hf => ?_⟩
  by_cases hi : i < ts.length
  · rw [List.getElem?_append_left hi] at hv
    rw [List.getElem?_append_left (by rw [← h.1]; exact hi)] at hf
    exact h.2 i v f hv hf
  · rw [List.getElem?_append_right (by omega)] at hv
    rw [List.getElem?_append_right (by rw [← h.1]; omega), ← h.1] at hf
    have h0 : i - ts.length = 0 := by
      have := (List.getElem?_eq_some_iff.mp hv).1
      simpa using this
    rw [h0] at hv hf
    cases hv
    cases hf
    exact ⟨p, rfl, hp⟩
theorem SeqV.minus {K : PySem.W.Frag} {H : Hp} {a x C dx : Addr} {xs : List V} {fs : List (Str × V)} (hx : H x = some (.ins C dx fs)) (h : SeqV K H a xs) : SeqV K (del H x) a xs := by
  have ne : ∀ {o : HO}, H a = some o → (∀ C dx fs, o ≠ .ins C dx fs) → del H x a = some o := fun {o} e n => by
    have : a ≠ x := fun z => by
      rw [z, hx] at e
      exact n _ _ _ (Option.some.inj e).symm
    rw [del_ne this]; exact e
  rcases h with ((h | ⟨o, h⟩) | h) | ((h | ⟨o, h⟩) | h)
  · exact .inl (.inl (.inl (ne h fun _ _ _ z => by cases z)))
  · exact .inl (.inl (.inr ⟨o, ne h fun _ _ _ z => by cases z⟩))
  · exact .inl (.inr h)
  · exact .inr (.inl (.inl (ne h fun _ _ _ z => by cases z)))
  · exact .inr (.inl (.inr ⟨o, ne h fun _ _ _ z => by cases z⟩))
  · exact .inr (.inr h)
theorem PairsV.minus {K : PySem.W.Frag} {H : Hp} {x C dx : Addr} {ts : List V} {es : List (Str × Str)} {fs : List (Str × V)} (hx : H x = some (.ins C dx fs)) (h : PairsV K H ts es) : PairsV K (del H x) ts es := ⟨h.1, fun i v e a b => let ⟨p, q, r⟩ := h.2 i v e a b; ⟨p, q, r.minus hx⟩⟩
/-- what of H' is new beside G -/
def fr (G H : Hp) : Hp := fun b => if (G b).isSome then none else H b
theorem fr_upd {G H : Hp} {q : Addr} {o : HO} (h : G q = none) : fr G (upd H q o) = upd (fr G H) q o := by
  funext b
  unfold fr upd
  by_cases e : b = q
  · subst e; simp [h]
  · simp [e]
theorem fr_get {G H : Hp} {b : Addr} {o : HO} (h : G b = none) (e : H b = some o) : fr G H b = some o := by
  unfold fr; rw [h]; exact e
theorem fr_le {G H : Hp} : Same (fr G H) H := fun b o e => by
  unfold fr at e
  by_cases h : (G b).isSome
  · rw [if_pos h] at e; cases e
  · rw [if_neg h] at e; exact e
theorem fr_same {G H H' : Hp} (s : Same H H') : Same (fr G H) (fr G H') := fun b o e => by
  unfold fr at e ⊢
  by_cases h : (G b).isSome
  · rw [if_pos h] at e; cases e
  · rw [if_neg h] at e ⊢; exact s _ _ e
theorem fr_none {G H : Hp} {b : Addr} (h : H b = none) : fr G H b = none := by
  unfold fr; rw [h]; split <;> rfl
/-- a comprehension over a list or a tuple -/
theorem lc_or {K : PySem.W.Frag} {a : Addr} {xs : List V} {H0 H : Hp} {σ : L2.St} {g : TG} {tt : TT} {te : TE} {vs : List Nat} {m : Nat} {Q : VK} (hm : σ[m]? = some (some (.ref a))) (hH : Same H0 H) (h : SeqV K H0 a xs) (Pv : Addr → Nat → Hp → Prop) (h0 : ∀ L, H L = none → Pv L 0 (upd H L (.lst [])))
    (hG : ∀ L i H', H L = none → i ≤ xs.length → Pv L i H' → Same H0 H')
    (hs : ∀ L i x H', H L = none → xs[i]? = some x → Pv L i H' → g x (wipe σ vs) H' fun σ2 H2 => wipe σ2 vs = wipe σ vs ∧ tt σ2 H2 fun b H3 => if b = true then te σ2 H3 fun y H4 => ∃ acc, H4 L = some (.lst acc) ∧ acc.length < sizeLine ∧ Pv L (i + 1) (upd H4 L (.lst (acc ++ [y]))) else Pv L (i + 1) H3)
    (hd : ∀ L H', H L = none → Pv L xs.length H' → Q (.ref L) H') : tLc (fun σ H R => iList K (tVar m) σ H R ∨ iTup K (tVar m) σ H R) g tt te vs σ H Q := by
  rcases h with h | h
  · refine .inl ⟨_, hm, a, rfl, ⟨_, hH.seq h⟩, fun L hL => ?_⟩
    exact lc_it (walk_list (xs := xs)) (Pv L) (h0 L hL) (fun i H' hi p => (hG L i H' hL hi p).seq h) (fun i x H2 H3 hi p y => by
      obtain ⟨rfl, hx⟩ := y
      exact hs L i x _ hL hx p) fun H' p => hd L H' hL p
  · refine .inr ⟨_, hm, a, rfl, ⟨_, SqT.same hH h⟩, fun L hL => ?_⟩
    exact lc_it (walk_tup (xs := xs)) (Pv L) (h0 L hL) (fun i H' hi p => SqT.same (hG L i H' hL hi p) h) (fun i x H2 H3 hi p y => by
      obtain ⟨rfl, hx⟩ := y
      exact hs L i x _ hL hx p) fun H' p => hd L H' hL p
theorem st_fld_of {K : PySem.W.Frag} {ta tv : TE} {f : Str} {u : TS} {Dn : Ends} {σ : L2.St} {H : Hp} (h : tv σ H (fun v H1 => sFld K ta (fun _ H Q => Q v H) f { Dn with nx := u Dn } σ H1)) : tSeq (sFld K ta tv f) u Dn σ H := h
theorem st_fld_one {K : PySem.W.Frag} {ta tv : TE} {f : Str} {Dn : Ends} {σ : L2.St} {H : Hp} (h : tv σ H (fun v H1 => sFld K ta (fun _ H Q => Q v H) f Dn σ H1)) : sFld K ta tv f Dn σ H := h
theorem ix_seqK {X : Cx} {K : PySem.W.Frag} (hK : X.K = K) : IxR X (rIx K) := by
  subst hK
  exact ix_seq
theorem FBN.same {K : PySem.W.Frag} {H H' : Hp} {v o : V} (s : Same H H') (h : FBN K H v o) : FBN K H' v o := by
  cases h with
  | no t e => exact .no (t.ext s) e
  | nil q => exact .nil (q.same s)
  | ok q n l g => exact .ok (q.same s) n l g
  | bad q l g b => exact .bad (q.same s) l g (b.same s)
theorem FBT.same {K : PySem.W.Frag} {H H' : Hp} {ns : List Str} {v o : V} (s : Same H H') (h : FBT K H ns v o) : FBT K H' ns v o := by
  rcases h with ⟨k, t, e, r⟩ | ⟨a, ts, es, tl, e, q, p, g, l, f1, f2⟩
  · exact .inl ⟨k, t.ext s, e, r⟩
  · exact .inr ⟨a, ts, es, tl, e, q.same s, p.same s, g, l, f1, fun b r z => let ⟨x, y⟩ := f2 b r z; ⟨x.same s, y⟩⟩
theorem FBA.same {K : PySem.W.Frag} {H H' : Hp} {m : Nat} {v o : V} (s : Same H H') (h : FBA K H m v o) : FBA K H' m v o := by
  rcases h with ⟨k, t, e, r⟩ | ⟨a, ws, tl, e, q, l, l2, g, f1, f2⟩
  · exact .inl ⟨k, t.ext s, e, r⟩
  · exact .inr ⟨a, ws, tl, e, q.same s, l, l2, g, f1, fun b r z => let ⟨x, y⟩ := f2 b r z; ⟨fun h => let ⟨k, t, u⟩ := x h; ⟨k, t.ext s, u⟩, y⟩⟩
def Eout (C : Addr) (o : V) (H : Hp) (E : XK) : Prop := ∀ H' d, Same H H' → H' d = none → E (.ref C) (some d) (upd H' d (.xd [("index", o)]))
theorem spErr_non {C : Addr} {H : Hp} {Q : VK} {E : XK} (q : ∀ H', Same H H' → Q .non H') : spErr C .non H Q E := ⟨fun _ => q, fun h => absurd rfl h⟩
theorem spErr_err {C : Addr} {o : V} {H : Hp} {Q : VK} {E : XK} (h : o ≠ .non) (e : Eout C o H E) : spErr C o H Q E := ⟨fun q => absurd q h, fun _ H' d s n => e H' d s n⟩
section
variable {P : Program} {w : World} {K : PySem.W.Frag} {mg : Str → Option Value} {base : Heap} {D : Ads}
/-- Village(vp, vt, vn): refused with a word, or made -/
def VilIn (K : PySem.W.Frag) (D : Ads) (H : Hp) (vp vt vn : V) (E : XK) (ok : List Str → List (Str × Str) → List Int → Prop) : Prop :=
  (∃ o, FBN K H vp o ∧ o ≠ .non ∧ Eout D.c_BadPeople o H E) ∨ ∃ pa ns, vp = .ref pa ∧ SeqV K H pa (ns.map V.str) ∧ Good ns ∧ ns ≠ [] ∧ ns.length ≤ 1000 ∧
    ((∃ o, FBT K H ns vt o ∧ o ≠ .non ∧ Eout D.c_BadTies o H E) ∨ ∃ ta ts es, vt = .ref ta ∧ SeqV K H ta ts ∧ PairsV K H ts es ∧ GoodT ns es ∧ es.length ≤ 1000 ∧ ns.length ≤ es.length + 1 ∧
      ((∃ o, FBA K H ns.length vn o ∧ o ≠ .non ∧ Eout D.c_BadNews o H E) ∨ ∃ na ws, vn = .ref na ∧ SeqV K H na (ws.map V.int) ∧ ws.length = ns.length ∧ (∀ x ∈ ws, 1 ≤ x) ∧ ok ns es ws))
def sp_vinit (K : PySem.W.Frag) (D : Ads) : Sp := fun vs H Q E => ∃ (x dx : Addr) (vp vt vn : V), vs = [.ref x, vp, vt, vn] ∧ H x = some (.ins D.C dx []) ∧
  VilIn K D H vp vt vn E fun ns es ws => ∀ H', (∀ b o, b ≠ x → H b = some o → H' b = some o) → Vil K D.C (fr (del H x) H') x ns es ws → Q .non H'
theorem sc_vinit : FnScope ["self", "people", "ties", "news", "tie"] ["self", "people", "ties", "news"] (defScope s_v_init) := ⟨rfl, rfl, rfl, by decide +kernel, rfl, by decide +kernel, by decide +kernel⟩
theorem ok_vinit (T : Txt K mg D) : FnOk P w K mg base (L2.CX P w) 5 D.a_v_init D.d_v_init ["self", "people", "ties", "news"] (sp_vinit K D) := by
  have G1 : FnOk P w K mg base (L2.CX P w) 3 D.a_check_people D.d_check_people ["people"] (sp_check_people K D.c_BadPeople) := ok_check_people T
  have G2 : FnOk P w K mg base (L2.CX P w) 4 D.a_check_ties D.d_check_ties ["people", "ties"] (sp_check_ties K D.c_BadTies) := ok_check_ties T
  have G3 : FnOk P w K mg base (L2.CX P w) 3 D.a_check_news D.d_check_news ["people", "news"] (sp_check_news K D.c_BadNews) := ok_check_news T
  have G4 : FnOk P w K mg base CX0 1 D.a_friends_by_ties D.d_friends_by_ties ["people", "ties"] (sp_friends_by_ties K) := ok_friends_by_ties T
  have nd := sc_vinit.nd
  refine T.F_v_init.okX sc_vinit (fun vs H Q E h => ?_) (fun cdv A outer s H vs Q E hr h => ?_)
  · obtain ⟨x, dx, vp, vt, vn, rfl, _⟩ := h
    rfl
  · obtain ⟨x, dx, vp, vt, vn, rfl, hx, hv⟩ := h
    have hr3 : Room 3 _ := hr.mono (by decide)
    have hr1 : Room 1 _ := hr.mono (by decide)
    have pass : ∀ {X : Cx} (tk : Takes X (fun cls d _ H => E cls d H)), Passes (L2.CX X.prog X.w) X E := fun tk => passes_call tk fun _ _ _ _ h => h
    refine ⟨_, pss_cons (ps_expr (pe_call G1 hr3 rfl T.g_check_people T.F_check_people.kp T.b_check_people .nil (pass (takes_of rfl rfl rfl rfl)) (pa_cons (pv 1) pa_nil)))
      (pss_cons (ps_expr (pe_call G2 hr rfl T.g_check_ties T.F_check_ties.kp T.b_check_ties .nil (pass (takes_of rfl rfl rfl rfl)) (pa_cons (pv 1) (pa_cons (pv 2) pa_nil))))
      (pss_cons (ps_expr (pe_call G3 hr3 rfl T.g_check_news T.F_check_news.kp T.b_check_news .nil (pass (takes_of rfl rfl rfl rfl)) (pa_cons (pv 1) (pa_cons (pv 3) pa_nil))))
      (pss_cons (ps_fld (pv 0) (pe_callTy call_list_of (by rfl) T.z_list boot_list' (pa_cons (pv 1) pa_nil)) rfl)
      (pss_cons (ps_fld (pv 0) (pe_lc (own := [("tie", 4)]) (g := gName 4) (tt := tYes) rfl nd (PI.or (pi_list (pv 2)) (pi_tup (pv 2))) (blkOk_by (N := ["self", "people", "ties", "news", "tie"]) (sc := defScope s_v_init) (by decide +kernel))
          (fun _ _ _ _ _ => pg_name (i := 4) nd rfl (Or.inl rfl)) (fun _ _ _ _ _ => pts_nil) (fun _ _ _ _ _ => pe_tup (pa_cons (pe_ix (ix_seqK (K := K) rfl) (pv 4) pe_int (fun _ _ => rfl)) (pa_cons (pe_ix (ix_seqK (K := K) rfl) (pv 4) pe_int (fun _ _ => rfl)) pa_nil)))) rfl)
      (pss_cons (ps_fld (pv 0) (pe_callTy call_list_of (by rfl) T.z_list boot_list' (pa_cons (pv 3) pa_nil)) rfl)
      (pss_one (ps_fld (pv 0) (pe_call G4 hr1 rfl T.g_friends_by_ties T.F_friends_by_ties.kp T.b_friends_by_ties .nil pass0 (pa_cons (pe_fld (pv 0) rfl) (pa_cons (pe_fld (pv 0) rfl) pa_nil))) rfl))))))), ?_⟩
    rcases hv with ⟨o, fb, no, eo⟩ | ⟨pa, ns, rfl, hp, hg, hne, hnl, hv⟩
    · exact ⟨_, rfl, vp, o, rfl, fb, spErr_err no eo⟩
    refine ⟨_, rfl, .ref pa, .non, rfl, .ok hp hne hnl hg, spErr_non fun H1 s1 => ?_⟩
    have hp1 := hp.same s1
    have eS : ∀ {H1 : Hp} {C : Addr} {o : V}, Same H H1 → Eout C o H E → Eout C o H1 E := fun s h H' d s' n => h H' d (s.trans s') n
    rcases hv with ⟨o, ft, no, eo⟩ | ⟨ta, ts, es, rfl, hs, hpv, hgt, hel, hle, hv⟩
    · exact ⟨_, rfl, _, rfl, pa, vt, ns, o, rfl, hp1, hg.2, hnl, ft.same s1, spErr_err no (eS s1 eo)⟩
    refine ⟨_, rfl, _, rfl, pa, .ref ta, ns, .non, rfl, hp1, hg.2, hnl, .inr ⟨ta, ts, es, [], rfl, by rw [List.append_nil]; exact hs.same s1, hpv.same s1, hgt, hel, fun _ => by rw [if_neg (by omega)], fun b r z => (nomatch z)⟩, spErr_non fun H2 s2 => ?_⟩
    have s12 := s1.trans s2
    have hp2 := hp.same s12
    have hlen : ns.length = (ns.map V.str).length := by rw [List.length_map]
    rcases hv with ⟨o, fa, no, eo⟩ | ⟨na, ws, rfl, hw, hwl, hw1, hok⟩
    · refine ⟨_, rfl, _, rfl, pa, vn, _, o, rfl, hp2, ?_, spErr_err no (eS s12 eo)⟩
      rw [← hlen]
      exact fa.same s12
    refine ⟨_, rfl, _, rfl, pa, .ref na, _, .non, rfl, hp2, ?_, spErr_non fun H3 s3 => ?_⟩
    · rw [← hlen]
      exact .inr ⟨na, ws, [], rfl, by rw [List.append_nil]; exact hw.same s12, by omega, hnl, hw1, fun _ => by rw [if_neg (by omega)], fun b r z => (nomatch z)⟩
    have s13 := s12.trans s3
    have hx3 := s13 _ _ hx
    -- self._people = list(people)
    refine ⟨_, rfl, pa, _, rfl, hp.same s13, fun pp hpp => ?_⟩
    have xpp : x ≠ pp := ne_of_none hx3 hpp
    refine ⟨_, rfl, x, D.C, dx, _, rfl, by rw [upd_ne xpp]; exact hx3, T.cl, T.no_people, (by show 0 < 1000; decide), ?_⟩
    rw [vf1]
    have mx : del H x x = none := del_same
    have s03 : Same (del H x) H3 := fun b o e => by
      by_cases hb : b = x
      · rw [hb, del_same] at e; cases e
      · rw [del_ne hb] at e; exact s13 _ _ e
    have s4 : Same (del H x) (upd (upd H3 pp (.lst (ns.map V.str))) x (.ins D.C dx (vfa pp))) := same_upd (Same.new' s03 hpp) mx
    have p4 : upd (upd H3 pp (.lst (ns.map V.str))) x (.ins D.C dx (vfa pp)) pp = some (.lst (ns.map V.str)) := by rw [upd_ne xpp.symm, upd_same]
    have x4 : upd (upd H3 pp (.lst (ns.map V.str))) x (.ins D.C dx (vfa pp)) x = some (.ins D.C dx (vfa pp)) := upd_same
    have keepx : ∀ b o, b ≠ x → H b = some o → upd (upd H3 pp (.lst (ns.map V.str))) x (.ins D.C dx (vfa pp)) b = some o := fun b o nb e => s4 b o (by rw [del_ne nb]; exact e)
    generalize upd (upd H3 pp (.lst (ns.map V.str))) x (.ins D.C dx (vfa pp)) = H4 at s4 p4 x4 ⊢
    have hsm := hs.minus hx
    have hpvm := hpv.minus hx
    have hwm := hw.minus hx
    -- self._ties = [(tie[0], tie[1]) for tie in ties]
    dsimp only
    refine st_fld_of ?_
    refine lc_or (xs := ts) (H0 := del H x) rfl s4 hsm (fun L i H5 => i ≤ es.length ∧ Same H4 H5 ∧ ∃ tl : List V, tl.length = i ∧ H5 L = some (.lst tl) ∧ TupsAt K (fr (del H x) H5) tl (es.take i)) (fun L hL => ⟨Nat.zero_le _, same_new hL, [], rfl, upd_same, rfl, fun i v e a b => by simp at a⟩) (fun L i H5 _ _ p => s4.trans p.2.1) (fun L i v H5 hL hv p => ?_) fun L H5 hL p => ?_
    · obtain ⟨_, s5, tl, l5, e5, t5⟩ := p
      have hlt : i < ts.length := (List.getElem?_eq_some_iff.mp hv).1
      rw [hpv.1] at hlt
      obtain ⟨e, he⟩ : ∃ e, es[i]? = some e := ⟨es[i], by simp [hlt]⟩
      obtain ⟨q, rfl, hq⟩ := (hpvm.2 i v e hv he).same (s4.trans s5)
      refine ⟨rfl, _, rfl, hq.ix (j := 0) rfl ⟨_, rfl, hq.ix (j := 1) rfl ⟨by show 2 ≤ sizeLine; decide, fun p hp => ?_⟩⟩⟩
      have Lp : L ≠ p := ne_of_none e5 hp
      have t6 := (t5.same (same_new (o := .tup [.str e.1, .str e.2]) (fr_none hp))).snoc (p := p) (e := e) (SqT.of upd_same)
      have hL5 : del H x L = none := same_none s4 hL
      have hp5 : del H x p = none := same_none (s4.trans s5) hp
      refine ⟨tl, by rw [upd_ne Lp]; exact e5, small5000 (by omega), hlt, same_upd (Same.new' s5 hp) hL, tl ++ [.ref p], by rw [List.length_append, l5]; rfl, upd_same, ?_⟩
      rw [take_snoc he, fr_upd hL5, fr_upd hp5]
      refine ⟨t6.1, fun j u f hu hf => ?_⟩
      obtain ⟨c, ec, hc⟩ := t6.2 j u f hu hf
      refine ⟨c, ec, ?_⟩
      have cL : ∀ {o : HO}, upd (fr (del H x) H5) p (.tup [.str e.1, .str e.2]) c = some o → (∀ xs, o ≠ .lst xs) → upd (upd (fr (del H x) H5) p (.tup [.str e.1, .str e.2])) L (.lst (tl ++ [.ref p])) c = some o := fun {o} eo no => by
        have : c ≠ L := fun z => by
          rw [z, upd_ne Lp, fr_get hL5 e5] at eo
          exact no _ (Option.some.inj eo).symm
        rw [upd_ne this]; exact eo
      rcases hc with (h | ⟨o, h⟩) | h
      · exact .inl (.inl (cL h fun _ z => by cases z))
      · exact .inl (.inr ⟨o, cL h fun _ z => by cases z⟩)
      · exact .inr h
    obtain ⟨_, s5, tl, l5, e5, t5⟩ := p
    rw [hpv.1, List.take_length] at t5
    have x5 := s5 _ _ x4
    have p5 := s5 _ _ p4
    refine ⟨_, rfl, x, D.C, dx, _, rfl, x5, T.cl, T.no_ties, (by show 1 < 1000; decide), ?_⟩
    rw [vf2]
    have Lx : L ≠ x := (ne_of_none x4 hL).symm
    have s6 : Same (del H x) (upd H5 x (.ins D.C dx (vfb pp L))) := same_upd (s4.trans s5) mx
    have p6 : upd H5 x (.ins D.C dx (vfb pp L)) pp = some (.lst (ns.map V.str)) := by rw [upd_ne xpp.symm]; exact p5
    have l6 : upd H5 x (.ins D.C dx (vfb pp L)) L = some (.lst tl) := by rw [upd_ne Lx]; exact e5
    have x6 : upd H5 x (.ins D.C dx (vfb pp L)) x = some (.ins D.C dx (vfb pp L)) := upd_same
    have nx : ∀ {H' : Hp} {c : Addr} {o : HO} {dx : Addr} {fs : List (Str × V)}, H' x = some (.ins D.C dx fs) → H' c = some o → (∀ C dx fs, o ≠ .ins C dx fs) → c ≠ x := fun e1 e2 no z => by
      rw [z, e1] at e2
      exact no _ _ _ (Option.some.inj e2).symm
    have tupx : ∀ {H' : Hp} {u : HO} {dx : Addr} {fs : List (Str × V)}, H' x = some (.ins D.C dx fs) → TupsAt K (fr (del H x) H') tl es → TupsAt K (fr (del H x) (upd H' x u)) tl es := fun {H' u dx fs} e1 h => ⟨h.1, fun i v f hv hf => by
      obtain ⟨c, ec, hc⟩ := h.2 i v f hv hf
      refine ⟨c, ec, ?_⟩
      rw [fr_upd mx]
      replace e1 := fr_get mx e1
      rcases hc with (h | ⟨o, h⟩) | h
      · exact .inl (.inl (by rw [upd_ne (nx e1 h fun _ _ _ z => by cases z)]; exact h))
      · exact .inl (.inr ⟨o, by rw [upd_ne (nx e1 h fun _ _ _ z => by cases z)]; exact h⟩)
      · exact .inr h⟩
    have t6 := tupx (u := .ins D.C dx (vfb pp L)) x5 t5
    generalize upd H5 x (.ins D.C dx (vfb pp L)) = H6 at s6 p6 l6 x6 t6 ⊢
    -- self._news = list(news)
    refine ⟨_, rfl, na, _, rfl, hwm.same s6, fun pw hpw => ?_⟩
    have xpw : x ≠ pw := ne_of_none x6 hpw
    refine ⟨_, rfl, x, D.C, dx, _, rfl, by rw [upd_ne xpw]; exact x6, T.cl, T.no_news, (by show 2 < 1000; decide), ?_⟩
    rw [vf3]
    have s7 : Same (del H x) (upd (upd H6 pw (.lst (ws.map V.int))) x (.ins D.C dx (vfc pp L pw))) := same_upd (Same.new' s6 hpw) mx
    have p7 : upd (upd H6 pw (.lst (ws.map V.int))) x (.ins D.C dx (vfc pp L pw)) pp = some (.lst (ns.map V.str)) := by rw [upd_ne xpp.symm, upd_ne (ne_of_none p6 hpw)]; exact p6
    have l7 : upd (upd H6 pw (.lst (ws.map V.int))) x (.ins D.C dx (vfc pp L pw)) L = some (.lst tl) := by rw [upd_ne Lx, upd_ne (ne_of_none l6 hpw)]; exact l6
    have w7 : upd (upd H6 pw (.lst (ws.map V.int))) x (.ins D.C dx (vfc pp L pw)) pw = some (.lst (ws.map V.int)) := by rw [upd_ne xpw.symm, upd_same]
    have x7 : upd (upd H6 pw (.lst (ws.map V.int))) x (.ins D.C dx (vfc pp L pw)) x = some (.ins D.C dx (vfc pp L pw)) := upd_same
    have t7 := tupx (u := .ins D.C dx (vfc pp L pw)) (H' := upd H6 pw (.lst (ws.map V.int))) (by rw [upd_ne xpw]; exact x6) (t6.same (fr_same (same_new hpw)))
    generalize upd (upd H6 pw (.lst (ws.map V.int))) x (.ins D.C dx (vfc pp L pw)) = H7 at s7 p7 l7 w7 x7 t7 ⊢
    -- self._friends = friends_by_ties(self._people, self._ties)
    refine ⟨_, rfl, x, D.C, dx, _, _, rfl, x7, T.cl, T.no_people, vfc_p _ _ _, _, rfl, x, D.C, dx, _, _, rfl, x7, T.cl, T.no_ties, vfc_t _ _ _, pp, L, ns, tl, es, rfl, SqL.of p7, SqL.of l7, t7.same fr_le, hg.2, hnl, hel, fun e he => ?_, fun H8 pf la s8 hpf e8 f8 => ?_⟩
    · obtain ⟨i, hi⟩ := List.getElem?_of_mem he
      exact ⟨(hgt i e hi).1, (hgt i e hi).2.1⟩
    have x8 := s8 _ _ x7
    have xpf : x ≠ pf := ne_of_none x7 hpf
    refine ⟨_, rfl, x, D.C, dx, _, rfl, x8, T.cl, T.no_friends, (by show 3 < 1000; decide), ?_⟩
    rw [vf4]
    have cl : ∀ {c : Addr} {o : HO}, del H x c = none → H8 c = some o → (∀ C dx fs, o ≠ .ins C dx fs) → fr (del H x) (upd H8 x (.ins D.C dx (vf pp L pw pf))) c = some o := fun {c o} g e no => fr_get g (by rw [upd_ne (nx x8 e no)]; exact e)
    refine hok _ (fun b o nb e => ?_) ⟨dx, pp, L, pw, pf, tl, la, fr_get mx upd_same, cl (s03.free hpp) (s8 _ _ p7) (fun _ _ _ z => by cases z), cl (s4.free hL) (s8 _ _ l7) (fun _ _ _ z => by cases z), tupx x8 (t7.same (fr_same s8)), cl (s6.free hpw) (s8 _ _ w7) (fun _ _ _ z => by cases z), cl (s7.free hpf) e8 (fun _ _ _ z => by cases z), fun z hz => cl (s7.free (f8 z hz).1) (f8 z hz).2 (fun _ _ _ z => by cases z)⟩
    rw [upd_ne nb]
    exact s8 _ _ (s7 _ _ (by rw [del_ne nb]; exact e))
end
end HS

set_option maxHeartbeats 4000000
namespace PySem.W
open PySem.F
section
variable {prog : Program} {w : World} {A : Around} {E : Value → Shared → Prop} {s : Shared} {K : Frag} {x C f : Addr} {ox : Obj} {od : Option Obj} {b tb : Value}
open Builtin in
theorem hs_objNe {Q : Fin → Shared → Prop} (hu : A.units < cLine) (X : K.In s.heap) (I : InstAt s.heap x ox C od) (hs : findIn K (.ref C) "__eq__" = some (some (.ref f))) (hf : isFn K (.ref f) = true)
    (hcall : wpAny (model prog w) A (call (.ref f) [.ref x, b]) (fun v s' => ∃ k, v = .bool k ∧ Q (.done (.ret (.bool (!k)))) s') E s) :
    wpAny (model prog w) A (Builtin.«object.__ne__» ⟨[.ref x, b], []⟩) Q E s := by
  obtain ⟨h, g, d, t, os⟩ := s
  unfold Builtin.«object.__ne__»
  repeat (first
    | with_reducible refine wpAny_cRoomFor hu ?_
    | (refine wpAny_bind (m := callSpecialIfBound? (.ref x) (Str.ofString "__eq__") [b])
        (ifBound_K X I hs hf (wpAny_mono hcall (fun r s' hr => by
          obtain ⟨k, rfl, hq⟩ := hr
          repeat (first | exact hq | exact wpAny_pure hq | exact wpAny_truthy_bool hq | (refine wpAny_bind (m := truthy (.bool _)) (wpAny_truthy_bool ?_)) | wp_step)) fun _ _ e => e)))
    | wp_step)
theorem hs_tryNe {Q : Option Value → Shared → Prop} {nm q : Str} {N : Addr} {bs bm : List Value} {hdct : Bool} {sn : List Str} {sub : List Value} {ab : Bool} {col : Option Bool} {dd : Option Addr} {k0 k1 k2 k3 k5 : Option Value} {newId : String}
    (hu : A.units + 1 < cLine) (X : K.In s.heap) (I : InstAt s.heap x ox C od) (hC : K.lookup C = some (excClassObj nm q C N bs bm hdct sn sub ab col dd k0 k1 k2 k3 k5 newId)) (hob : bm.contains (.type "object") = true) (hn : findIn K (.ref C) "__ne__" = some (some (.builtin "object.__ne__")))
    (hs : findIn K (.ref C) "__eq__" = some (some (.ref f))) (hf : isFn K (.ref f) = true)
    (hcall : wpAny (model prog w) A.in1 (call (.ref f) [.ref x, b]) (fun v s' => ∃ k, v = .bool k ∧ Q (some (.bool (!k))) s') E s) : wpAny (model prog w) A (tryCompare (.ref x) "__ne__" b) Q E s := by
  have FB := PySem.F.cmp_object
  simp only [tryCompare]
  refine wpAny_bind ?_
  simp only [callSpecialIfBound?, bindSpecialIfBound?]
  refine wpAny_holding (wpAny_bind (wpAny_bind (wpAny_bind (I.type.here ((looks_findIn X hn).here ?_)))))
  simp only [FB.ne.bind]
  have cl : wpAny (model prog w) A (call (.builtin "object.__ne__") [.ref x, b]) (fun v s' => ∃ k, v = .bool (!k) ∧ Q (some (.bool (!k))) s') E s := by
    refine wpAny_call ?_
    obtain ⟨h, g, d, t, os⟩ := s
    refine codeAny_call_builtin FB.ne.plain PySem.F.cmpEntry_ne ?_
    refine wpAny_check_slot_inst PySem.F.cmpKind_ne PySem.F.cmpSplit_ne (PySem.F.cmpArgs_ne _ _) hob I.at_ I.cls (X _ _ hC) ?_
    refine hs_objNe (A := A.in1) (by exact hu) X I hs hf (wpAny_mono hcall (fun v s' hv => ?_) fun _ _ e => e)
    obtain ⟨k, rfl, hq⟩ := hv
    first | exact ⟨k, rfl, k, rfl, hq⟩ | exact ⟨k, rfl, ⟨k, rfl, hq⟩⟩
  have fin : wpAny (model prog w) A (call (.builtin "object.__ne__") ([.ref x] ++ [b]) >>= fun v => pure (some v)) (fun r s' => ∃ k, r = some (.bool (!k)) ∧ Q (some (.bool (!k))) s') E s :=
    wpAny_bind (wpAny_mono cl (fun v s' h' => by
      obtain ⟨k, rfl, hq⟩ := h'
      exact wpAny_pure ⟨k, rfl, hq⟩) fun _ _ h' => h')
  refine wpAny_bind (wpAny_askSetting (wpAny_ite ?_))
  have last : wpAny (model prog w) A (call (.builtin "object.__ne__") ([.ref x] ++ [b]) >>= fun v => pure (some v)) (fun a s' => wpAny (model prog w) A (match a with
      | some Value.notImplemented => pure none
      | none => pure none
      | some v => pure (some v)) Q E s') E s := wpAny_mono fin (fun r s' h => by
    obtain ⟨k, rfl, hq⟩ := h
    exact wpAny_pure hq) fun _ _ e => e
  split
  · exact wpAny_bind (wpAny_pure (wpAny_pure (by exact last)))
  · exact wpAny_tryCatch (wpAny_bind (wpAny_pure (wpAny_pure (by exact last))))
theorem hs_ne {Q : Value → Shared → Prop} {nm q : Str} {N : Addr} {bs bm : List Value} {hdct : Bool} {sn : List Str} {sub : List Value} {ab : Bool} {col : Option Bool} {dd : Option Addr} {k0 k1 k2 k3 k5 : Option Value} {newId : String}
    (hu : A.units + 1 < cLine) (X : K.In s.heap) (I : InstAt s.heap x ox C od) (hb : Looks (model prog w) s.heap (typeOf b) tb) (hnf : notFirst K C tb = true) (hC : K.lookup C = some (excClassObj nm q C N bs bm hdct sn sub ab col dd k0 k1 k2 k3 k5 newId)) (hob : bm.contains (.type "object") = true) (hn : findIn K (.ref C) "__ne__" = some (some (.builtin "object.__ne__")))
    (hs : findIn K (.ref C) "__eq__" = some (some (.ref f))) (hf : isFn K (.ref f) = true)
    (hcall : wpAny (model prog w) A.in1 (call (.ref f) [.ref x, b]) (fun v s' => ∃ k, v = .bool k ∧ Q (.bool (!k)) s') E s) : wpAny (model prog w) A (richCompare .NotEq (.ref x) b) Q E s := by
  have one : wpAny (model prog w) A (tryCompare (.ref x) "__ne__" b) (fun r s' => ∃ v, r = some v ∧ Q v s') E s :=
    hs_tryNe hu X I hC hob hn hs hf (wpAny_mono hcall (fun v s' h => by
      obtain ⟨k, rfl, hq⟩ := h
      exact ⟨k, rfl, _, rfl, hq⟩) fun _ _ e => e)
  unfold richCompare
  simp only [oneThing_ref]
  refine wpAny_holding (wpAny_bind (wpAny_cRoomFor (Nat.lt_of_succ_lt hu) ?_))
  refine wpAny_bind (I.type.here (wpAny_bind (hb.here ?_)))
  have fin : wpAny (model prog w) A (tryCompare (.ref x) (cmpInfo .NotEq).2.1 b) (fun r s' => ∃ v, r = some v ∧ Q v s') E s := one
  split
  · rename_i q
    have e : subIn K tb (.ref C) = some false := by
      rcases Bool.or_eq_true_iff.mp hnf with e | e
      · rw [beq_iff_eq.mp e] at q; simp at q
      · exact beq_iff_eq.mp e
    refine wpAny_bind ((looks_subIn X e).here ?_)
    simp only [Bool.false_eq_true, if_false]
    refine wpAny_bind (wpAny_mono fin (fun r s' z => ?_) fun _ _ e => e)
    obtain ⟨v, rfl, hq⟩ := z
    exact wpAny_pure hq
  · refine wpAny_bind (wpAny_pure ?_)
    simp only [Bool.false_eq_true, if_false]
    refine wpAny_bind (wpAny_mono fin (fun r s' z => ?_) fun _ _ e => e)
    obtain ⟨v, rfl, hq⟩ := z
    exact wpAny_pure hq
end
end PySem.W

set_option maxHeartbeats 4000000
namespace HS
open PySem PySem.Spec L2
/-! ### data: names, ties, news -/
def dN (ns : List Str) : PyData := .list (ns.map PyData.str)
def dP (e : Str × Str) : PyData := .tuple [.str e.1, .str e.2]
def dT (es : List (Str × Str)) : PyData := .list (es.map dP)
def dW (ws : List Int) : PyData := .list (ws.map PyData.int)
theorem eqvAll_map {α : Type} [DecidableEq α] (f : α → PyData) (h : ∀ x y, PyData.eqv (f x) (f y) = decide (x = y)) : ∀ a b : List α, PyData.eqvAll (a.map f) (b.map f) = decide (a = b)
  | [], [] => rfl
  | [], _ :: _ => rfl
  | _ :: _, [] => rfl
  | x :: a, y :: b => by
    show (PyData.eqv (f x) (f y) && PyData.eqvAll (a.map f) (b.map f)) = _
    rw [h, eqvAll_map f h a b]
    by_cases e : x = y <;> by_cases e2 : a = b <;> simp [e, e2]
theorem eqv_str (x y : Str) : PyData.eqv (.str x) (.str y) = decide (x = y) := by
  show (x == y) = _
  by_cases e : x = y <;> simp [e]
theorem eqv_int (x y : Int) : PyData.eqv (.int x) (.int y) = decide (x = y) := by
  show (x == y) = _
  by_cases e : x = y <;> simp [e]
theorem eqv_dP (x y : Str × Str) : PyData.eqv (dP x) (dP y) = decide (x = y) := by
  show (PyData.eqv (.str x.1) (.str y.1) && (PyData.eqv (.str x.2) (.str y.2) && true)) = _
  rw [eqv_str, eqv_str]
  obtain ⟨a, b⟩ := x
  obtain ⟨c, d⟩ := y
  by_cases e : a = c <;> by_cases e2 : b = d <;> simp [e, e2]
theorem eqv_dN (a b : List Str) : PyData.eqv (dN a) (dN b) = decide (a = b) := eqvAll_map _ eqv_str a b
theorem eqv_dT (a b : List (Str × Str)) : PyData.eqv (dT a) (dT b) = decide (a = b) := eqvAll_map _ eqv_dP a b
theorem eqv_dW (a b : List Int) : PyData.eqv (dW a) (dW b) = decide (a = b) := eqvAll_map _ eqv_int a b
def OkS (z : Str) : Prop := PyData.strOk z = true
theorem canAll_map {α : Type} (f : α → PyData) : ∀ a : List α, (∀ x ∈ a, (f x).canLay0 = true) → PyData.canLayAll0 (a.map f) = true
  | [], _ => rfl
  | x :: a, h => by
    show ((f x).canLay0 && PyData.canLayAll0 (a.map f)) = true
    rw [h x (by simp), canAll_map f a fun y hy => h y (List.mem_cons_of_mem _ hy)]; rfl
theorem depthAll_map {α : Type} (f : α → PyData) (m : Nat) : ∀ a : List α, (∀ x ∈ a, (f x).depth ≤ m) → PyData.depthAll (a.map f) ≤ m
  | [], _ => Nat.zero_le _
  | x :: a, h => by
    show max (f x).depth (PyData.depthAll (a.map f)) ≤ m
    have h1 := h x (by simp)
    have h2 := depthAll_map f m a fun y hy => h y (List.mem_cons_of_mem _ hy)
    omega
theorem sh_dN {a : List Str} (h : ∀ z ∈ a, OkS z) : SeqAt.shaped (dN a) = true := by
  unfold SeqAt.shaped
  have h1 : (dN a).canLay0 = true := canAll_map _ a h
  have h2 := depthAll_map PyData.str 0 a fun _ _ => Nat.le_refl _
  have h3 : (dN a).depth ≤ 64 := by show PyData.depthAll (a.map PyData.str) + 1 ≤ 64; omega
  rw [h1, decide_eq_true h3]; rfl
theorem sh_dW (a : List Int) : SeqAt.shaped (dW a) = true := by
  unfold SeqAt.shaped
  have h1 : (dW a).canLay0 = true := canAll_map _ a fun _ _ => rfl
  have h2 := depthAll_map PyData.int 0 a fun _ _ => Nat.le_refl _
  have h3 : (dW a).depth ≤ 64 := by show PyData.depthAll (a.map PyData.int) + 1 ≤ 64; omega
  rw [h1, decide_eq_true h3]; rfl
theorem can_dP {e : Str × Str} (h : OkS e.1 ∧ OkS e.2) : (dP e).canLay0 = true := by
  show (PyData.strOk e.1 && (PyData.strOk e.2 && true)) = true
  rw [show PyData.strOk e.1 = true from h.1, show PyData.strOk e.2 = true from h.2]; rfl
theorem sh_dT {a : List (Str × Str)} (h : ∀ e ∈ a, OkS e.1 ∧ OkS e.2) : SeqAt.shaped (dT a) = true := by
  unfold SeqAt.shaped
  have h1 : (dT a).canLay0 = true := canAll_map _ a fun e he => can_dP (h e he)
  have h2 := depthAll_map dP 1 a fun _ _ => Nat.le_refl _
  have h3 : (dT a).depth ≤ 64 := by show PyData.depthAll (a.map dP) + 1 ≤ 64; omega
  rw [h1, decide_eq_true h3]; rfl
theorem dpAll_map {α : Type} {K : PySem.W.Frag} {H : Hp} (f : α → PyData) (g : α → V) : ∀ a : List α, (∀ x ∈ a, Dp K H (g x) (f x)) → DpAll K H (a.map g) (a.map f)
  | [], _ => .nil
  | x :: a, h => .cons (h x (by simp)) (dpAll_map f g a fun y hy => h y (List.mem_cons_of_mem _ hy))
theorem dp_dN {K : PySem.W.Frag} {H : Hp} {p : Addr} {ns : List Str} (h : SqL K H p (ns.map V.str)) : Dp K H (.ref p) (dN ns) := .lst h (dpAll_map _ _ ns fun _ _ => .str _)
theorem dp_dW {K : PySem.W.Frag} {H : Hp} {p : Addr} {ws : List Int} (h : SqL K H p (ws.map V.int)) : Dp K H (.ref p) (dW ws) := .lst h (dpAll_map _ _ ws fun _ _ => .int _)
theorem dpAll_tups {K : PySem.W.Frag} {H : Hp} : ∀ (ts : List V) (es : List (Str × Str)), TupsAt K H ts es → DpAll K H ts (es.map dP)
  | [], [], _ => .nil
  | [], _ :: _, h => by have := h.1; simp at this
  | _ :: _, [], h => by have := h.1; simp at this
  | t :: ts, e :: es, h => by
    obtain ⟨a, rfl, ha⟩ := h.2 0 t e rfl rfl
    exact .cons (.tup ha (.cons (.str _) (.cons (.str _) .nil))) (dpAll_tups ts es ⟨by have := h.1; simpa using this, fun i v f hv hf => h.2 (i + 1) v f hv hf⟩)
theorem dp_dT {K : PySem.W.Frag} {H : Hp} {p : Addr} {ts : List V} {es : List (Str × Str)} (h : SqL K H p ts) (t : TupsAt K H ts es) : Dp K H (.ref p) (dT es) := .lst h (dpAll_tups ts es t)
/-- texts that the model takes as data -/
structure OkV (ns : List Str) (es : List (Str × Str)) : Prop where
  n : ∀ z ∈ ns, OkS z
  t : ∀ e ∈ es, OkS e.1 ∧ OkS e.2
section
variable {P : Program} {w : World} {K : PySem.W.Frag} {mg : Str → Option Value} {base : Heap} {D : Ads}
theorem Txt.ins (T : Txt K mg D) {H : Hp} {a dx : Addr} {fs : List (Str × V)} (e : H a = some (.ins D.C dx fs)) : TyX K H (.ref a) (.ref D.C) := .base (.ins e T.cl T.ca T.cg T.ct T.cm)
/-- what a village is compared with -/
inductive Oth (K : PySem.W.Frag) (C : Addr) (H : Hp) (ns : List Str) (es : List (Str × Str)) (ws : List Int) : V → Bool → Prop where
  | odd {y : V} {k : Kn} (h : TyK K H y k) : Oth K C H ns es ws y false
  | vil {x : Addr} {ms : List Str} {fs : List (Str × Str)} {us : List Int} (h : Vil K C H x ms fs us) (ok : OkV ms fs) : Oth K C H ns es ws (.ref x) (decide (ns = ms) && (decide (es = fs) && decide (ws = us)))
def sp_veq (K : PySem.W.Frag) (C : Addr) : Sp := fun vs H Q _ => ∃ x y ns es ws b, vs = [.ref x, y] ∧ Vil K C H x ns es ws ∧ OkV ns es ∧ Oth K C H ns es ws y b ∧ Q (.bl b) H
theorem sc_veq : FnScope ["self", "other"] ["self", "other"] (defScope s_v_eq) := ⟨rfl, rfl, rfl, by decide +kernel, rfl, by decide +kernel, by decide +kernel⟩
/-- isinstance(x, C) -/
theorem call_isV (T : Txt K mg D) {X : Cx} (hK : X.K = K) : CallR X (.builtin "isinstance") (fun xs H Q => ∃ x b, xs = [x, .ref D.C] ∧ ((∃ k, TyK K H x k ∧ b = false) ∨ ∃ a dx fs, x = .ref a ∧ H a = some (.ins D.C dx fs) ∧ b = true) ∧ Q (.bl b) H) := by
  subst hK
  intro pins s σ H xs us Q I r h
  obtain ⟨x, b, rfl, ty, q⟩ := h
  obtain ⟨u1, u2, rfl, r1, r2⟩ := vals2 r
  cases (show u2 = Value.ref D.C from r2)
  rcases ty with ⟨k, ty, rfl⟩ | ⟨a, dx, fs, rfl, e, rfl⟩
  · obtain ⟨P, Z, p, hx⟩ := kit_ofK I r1 ty
    exact PySem.W.kia_one Z I.kIn p (T.kit k) hx fun tk => ⟨.bl false, H, I.tok tk, rfl, q⟩
  · obtain ⟨P, Z, p, hx⟩ := kit_of I r1 (T.ins e)
    exact PySem.W.kia_one Z I.kIn p (by unfold PySem.W.kitOne; rw [if_pos (by simp)]) hx fun tk => ⟨.bl true, H, I.tok tk, rfl, q⟩
theorem ok_veq (T : Txt K mg D) : FnOk P w K mg base CX0 1 D.a_v_eq D.d_v_eq ["self", "other"] (sp_veq K D.C) := by
  refine T.F_v_eq.ok sc_veq (fun vs H Q E h => ?_) (fun cdv A outer s H vs Q E hr h => ?_)
  · obtain ⟨x, y, ns, es, ws, b, rfl, _⟩ := h
    rfl
  · obtain ⟨x, y, ns, es, ws, b, rfl, hv, ho, hy, q⟩ := h
    have hu := hr.units
    refine ⟨_, pss_one (ps_ret (pe_and (pe_callB (call_isV T rfl) (by rfl) T.z_isinstance boot_isinstance (pa_cons (pv 1) (pa_cons (pe_glob (v := .ref D.C) (by rfl) T.gC rfl) pa_nil)))
      (pe_and (pe_cmpR (op_eqD hu) (pe_fld (pv 0) rfl) (pe_fld (pv 1) rfl) (nomark _)) (pe_and (pe_cmpR (op_eqD hu) (pe_fld (pv 0) rfl) (pe_fld (pv 1) rfl) (nomark _)) (pe_one (pe_cmpR (op_eqD hu) (pe_fld (pv 0) rfl) (pe_fld (pv 1) rfl) (nomark _))))))), ?_⟩
    cases hy with
    | @odd y k ty => exact ⟨_, rfl, _, false, rfl, .inl ⟨k, ty, rfl⟩, _, rfl, iteF q⟩
    | @vil x' ms fs us hv' ho' =>
      obtain ⟨dx, pp, pt, pw, pf, ts, la, e1, e2, e3, e4, e5, e6, e7⟩ := hv.ex
      obtain ⟨dx', pp', pt', pw', pf', ts', la', f1, f2, f3, f4, f5, f6, f7⟩ := hv'.ex
      refine ⟨_, rfl, _, true, rfl, .inr ⟨x', dx', _, rfl, f1, rfl⟩, _, rfl, iteT ?_⟩
      refine ⟨_, rfl, x, D.C, dx, _, _, rfl, e1, T.cl, T.no_people, vf_p _ _ _ _, _, rfl, x', D.C, dx', _, _, rfl, f1, T.cl, T.no_people, vf_p _ _ _ _, dN ns, dN ms, dp_dN (SqL.of e2), dp_dN (SqL.of f2), sh_dN ho.n, sh_dN ho'.n, _, rfl, ?_⟩
      rw [eqv_dN]
      refine ite2 (fun c1 => ?_) (fun c1 => ?_)
      · rw [c1, Bool.true_and] at q
        refine ⟨_, rfl, x, D.C, dx, _, _, rfl, e1, T.cl, T.no_ties, vf_t _ _ _ _, _, rfl, x', D.C, dx', _, _, rfl, f1, T.cl, T.no_ties, vf_t _ _ _ _, dT es, dT fs, dp_dT (SqL.of e3) e4, dp_dT (SqL.of f3) f4, sh_dT ho.t, sh_dT ho'.t, _, rfl, ?_⟩
        rw [eqv_dT]
        refine ite2 (fun c2 => ?_) (fun c2 => ?_)
        · rw [c2, Bool.true_and] at q
          refine ⟨_, rfl, x, D.C, dx, _, _, rfl, e1, T.cl, T.no_news, vf_w _ _ _ _, _, rfl, x', D.C, dx', _, _, rfl, f1, T.cl, T.no_news, vf_w _ _ _ _, dW ws, dW us, dp_dW (SqL.of e5), dp_dW (SqL.of f5), sh_dW _, sh_dW _, ?_⟩
          rw [eqv_dW]
          exact q
        · rw [Bool.eq_false_iff.mpr c2, Bool.false_and] at q
          exact q
      · rw [Bool.eq_false_iff.mpr c1, Bool.false_and] at q
        exact q
/-! ### people(), ties(), news() -/
def sp_vget (K : PySem.W.Frag) (C : Addr) (f : List V → Hp → List Str → List (Str × Str) → List Int → Prop) : Sp := fun vs H Q _ => ∃ x ns es ws, vs = [.ref x] ∧ Vil K C H x ns es ws ∧ ∀ p xs H', H p = none → Same H H' → H' p = some (.lst xs) → f xs H' ns es ws → Q (.ref p) H'
def fP : List V → Hp → List Str → List (Str × Str) → List Int → Prop := fun xs _ ns _ _ => xs = ns.map V.str
def fT (K : PySem.W.Frag) : List V → Hp → List Str → List (Str × Str) → List Int → Prop := fun xs H _ es _ => TupsAt K H xs es
def fW : List V → Hp → List Str → List (Str × Str) → List Int → Prop := fun xs _ _ _ ws => xs = ws.map V.int
theorem sc_vpeople : FnScope ["self"] ["self"] (defScope s_v_people) := ⟨rfl, rfl, rfl, by decide +kernel, rfl, by decide +kernel, by decide +kernel⟩
theorem ok_vpeople (T : Txt K mg D) : FnOk P w K mg base CX0 1 D.a_v_people D.d_v_people ["self"] (sp_vget K D.C fP) := by
  refine T.F_v_people.ok sc_vpeople (fun vs H Q E h => ?_) (fun cdv A outer s H vs Q E hr h => ?_)
  · obtain ⟨x, ns, es, ws, rfl, _⟩ := h
    rfl
  · obtain ⟨x, ns, es, ws, rfl, hv, q⟩ := h
    refine ⟨_, pss_one (ps_ret (pe_callTy call_list_of (by rfl) T.z_list boot_list' (pa_cons (pe_fld (pv 0) rfl) pa_nil))), ?_⟩
    obtain ⟨dx, pp, pt, pw, pf, ts, la, e1, e2, e3, e4, e5, e6, e7⟩ := hv.ex
    exact ⟨_, rfl, x, D.C, dx, _, _, rfl, e1, T.cl, T.no_people, vf_p _ _ _ _, pp, _, rfl, .inl (SqL.of e2), fun l hl => q l _ _ hl (same_new hl) upd_same rfl⟩
theorem sc_vties : FnScope ["self"] ["self"] (defScope s_v_ties) := ⟨rfl, rfl, rfl, by decide +kernel, rfl, by decide +kernel, by decide +kernel⟩
theorem ok_vties (T : Txt K mg D) : FnOk P w K mg base CX0 1 D.a_v_ties D.d_v_ties ["self"] (sp_vget K D.C (fT K)) := by
  refine T.F_v_ties.ok sc_vties (fun vs H Q E h => ?_) (fun cdv A outer s H vs Q E hr h => ?_)
  · obtain ⟨x, ns, es, ws, rfl, _⟩ := h
    rfl
  · obtain ⟨x, ns, es, ws, rfl, hv, q⟩ := h
    refine ⟨_, pss_one (ps_ret (pe_callTy call_list_of (by rfl) T.z_list boot_list' (pa_cons (pe_fld (pv 0) rfl) pa_nil))), ?_⟩
    obtain ⟨dx, pp, pt, pw, pf, ts, la, e1, e2, e3, e4, e5, e6, e7⟩ := hv.ex
    exact ⟨_, rfl, x, D.C, dx, _, _, rfl, e1, T.cl, T.no_ties, vf_t _ _ _ _, pt, _, rfl, .inl (SqL.of e3), fun l hl => q l _ _ hl (same_new hl) upd_same (e4.same (same_new hl))⟩
theorem sc_vnews : FnScope ["self"] ["self"] (defScope s_v_news) := ⟨rfl, rfl, rfl, by decide +kernel, rfl, by decide +kernel, by decide +kernel⟩
theorem ok_vnews (T : Txt K mg D) : FnOk P w K mg base CX0 1 D.a_v_news D.d_v_news ["self"] (sp_vget K D.C fW) := by
  refine T.F_v_news.ok sc_vnews (fun vs H Q E h => ?_) (fun cdv A outer s H vs Q E hr h => ?_)
  · obtain ⟨x, ns, es, ws, rfl, _⟩ := h
    rfl
  · obtain ⟨x, ns, es, ws, rfl, hv, q⟩ := h
    refine ⟨_, pss_one (ps_ret (pe_callTy call_list_of (by rfl) T.z_list boot_list' (pa_cons (pe_fld (pv 0) rfl) pa_nil))), ?_⟩
    obtain ⟨dx, pp, pt, pw, pf, ts, la, e1, e2, e3, e4, e5, e6, e7⟩ := hv.ex
    exact ⟨_, rfl, x, D.C, dx, _, _, rfl, e1, T.cl, T.no_news, vf_w _ _ _ _, pw, _, rfl, .inl (SqL.of e5), fun l hl => q l _ _ hl (same_new hl) upd_same rfl⟩
/-! ### == and != of villages -/
theorem run_veq (T : Txt K mg D) {X : Cx} {n : Nat} {A : Around} {pins : List (Addr × Obj)} {σ : L2.St} {H : Hp} {s : Shared} {a : Addr} {y : V} {u : Value} {b : Bool} {ns : List Str} {es : List (Str × Str)} {ws : List Int} (hK : X.K = K) (hm : X.mg = mg) (sb : Sub X 1 A) (I : Inv X pins σ H s) (ru : RelV y u) (hv : Vil K D.C H a ns es ws) (ho : OkV ns es) (hy : Oth K D.C H ns es ws y b) :
    wpAny (model X.prog X.w) A (call (.ref D.a_v_eq) [.ref a, u]) (fun v s' => v = .bool b ∧ Inv X pins σ H s') X.xe s := by
  subst hK hm
  have F : FnOk X.prog X.w X.K X.mg X.base CX0 1 D.a_v_eq D.d_v_eq ["self", "other"] (sp_veq X.K D.C) := ok_veq T
  have hsp : sp_veq X.K D.C [.ref a, y] H (fun v H' => v = .bl b ∧ H' = H) E0 := ⟨a, y, ns, es, ws, b, rfl, hv, ho, hy, rfl, rfl⟩
  have e0 : Env0 X.prog X.w X.K X.mg X.base A X.stack s H := by
    have e := I.env0
    exact ⟨by rw [sb.fr]; exact e.frames, e.mod, e.bs, e.bsz, e.funs, e.frf, e.hok, e.bare⟩
  have r2 : Vals [V.ref a, y] [Value.ref a, u] := .cons rfl (.cons ru .nil)
  refine wpAny_call (codeAny_mono (F.run A X.stack s H ⟨[.ref a, u], []⟩ [.ref a, u] [.ref a, y] _ E0 sb.room e0 (by
    have := T.b_v_eq s [.ref a, u] I.kIn rfl
    simpa using this) r2 hsp) fun r s' hq => ?_)
  cases r with
  | error e => exact (show False from hq).elim
  | ok fl =>
    cases fl with
    | ret w =>
      obtain ⟨z, H', I', rz, ez, eh⟩ := I.after hq
      subst ez
      subst eh
      cases rz
      exact ⟨rfl, I'⟩
    | next => exact False.elim hq
    | brk => exact False.elim hq
    | cont => exact False.elim hq
def rEqVil (K : PySem.W.Frag) (C : Addr) (neg : Bool) : R2 := fun x y H Q => ∃ a ns es ws b, x = .ref a ∧ Vil K C H a ns es ws ∧ OkV ns es ∧ Oth K C H ns es ws y b ∧ Q (.bl (if neg then !b else b)) H
theorem oth_ty (T : Txt K mg D) {X : Cx} {pins : List (Addr × Obj)} {σ : L2.St} {H : Hp} {s : Shared} {y : V} {u : Value} {b : Bool} {ns : List Str} {es : List (Str × Str)} {ws : List Int} (hK : X.K = K) (I : Inv X pins σ H s) (ru : RelV y u) (hy : Oth K D.C H ns es ws y b) :
    ∃ tb, PySem.W.Looks (model X.prog X.w) s.heap (typeOf u) tb ∧ PySem.W.notFirst K D.C tb = true := by
  subst hK
  cases hy with
  | @odd y k ty =>
    obtain ⟨P, Z, p, hx⟩ := kit_ofK I ru ty
    exact ⟨_, Z.ty _ _ I.kIn p, by unfold PySem.W.notFirst; rw [T.nf k]; simp⟩
  | @vil x' ms fs us hv' ho' =>
    obtain ⟨dx', pp', pt', pw', pf', ts', la', f1, _⟩ := hv'.ex
    obtain ⟨P, Z, p, hx⟩ := kit_of I ru (T.ins f1)
    exact ⟨_, Z.ty _ _ I.kIn p, by simp [PySem.W.notFirst]⟩
theorem op_eqVil (T : Txt K mg D) {X : Cx} (hK : X.K = K) (hm : X.mg = mg) (hr : Room 1 X.A) : OpR X (compareOp .Eq) (rEqVil K D.C false) := by
  intro pins s σ H x y v u Q I rx ry h
  obtain ⟨a, ns, es, ws, b, rfl, hv, ho, hy, q⟩ := h
  cases (show v = Value.ref a from rx)
  obtain ⟨tb, hb, hn⟩ := oth_ty T hK I ry hy
  obtain ⟨dx, pp, pt, pw, pf, ts, la, e1, _⟩ := id hv.ex
  obtain ⟨mA, J, _⟩ := ins_get I.hok e1
  obtain ⟨od, J, _⟩ := J.look
  obtain ⟨m, hF⟩ := I.fr
  show wpAny (model X.prog X.w) X.A (richCompare .Eq (.ref a) u) (EP X pins σ Q) X.xe s
  refine PySem.W.cmp_K (op := .Eq) (tb := tb) hr.units0 hF I.ok.mod.kin J hb (by rw [hK]; exact hn) (by rw [hK]; exact T.m_v_eq.at_) (by rw [hK]; exact T.m_v_eq.fn) (wpAny_mono (run_veq (n := 1) T hK hm ⟨hr, rfl⟩ I ry hv ho hy) (fun r s' z => ?_) fun _ _ x => x)
  obtain ⟨rfl, I'⟩ := z
  exact ⟨.bl b, H, I', rfl, q⟩
theorem op_neVil (T : Txt K mg D) {X : Cx} (hK : X.K = K) (hm : X.mg = mg) (hr : Room 2 X.A) : OpR X (compareOp .NotEq) (rEqVil K D.C true) := by
  intro pins s σ H x y v u Q I rx ry h
  obtain ⟨a, ns, es, ws, b, rfl, hv, ho, hy, q⟩ := h
  cases (show v = Value.ref a from rx)
  obtain ⟨tb, hb, hn⟩ := oth_ty T hK I ry hy
  obtain ⟨dx, pp, pt, pw, pf, ts, la, e1, _⟩ := id hv.ex
  obtain ⟨mA, J, _⟩ := ins_get I.hok e1
  obtain ⟨od, J, _⟩ := J.look
  obtain ⟨nm, q0, N, bs, bm, hdct, sn, sub, ab, col, dd, k0, k1, k2, k3, k5, newId, hC, hob⟩ := T.hC
  show wpAny (model X.prog X.w) X.A (richCompare .NotEq (.ref a) u) (EP X pins σ Q) X.xe s
  have sb : Sub X 1 X.A.in1 := (show Sub X 2 X.A from ⟨hr, rfl⟩).in1
  refine PySem.W.hs_ne (tb := tb) (hu_of hr) I.kIn J hb (by rw [hK]; exact hn) (by rw [hK]; exact hC) hob (by rw [hK]; exact T.hNe) (by rw [hK]; exact T.m_v_eq.at_) (by rw [hK]; exact T.m_v_eq.fn) (wpAny_mono (run_veq (n := 1) T hK hm sb I ry hv ho hy) (fun r s' z => ?_) fun _ _ x => x)
  obtain ⟨rfl, I'⟩ := z
  exact ⟨b, rfl, .bl (!b), H, I', rfl, q⟩
end
end HS

set_option maxHeartbeats 4000000
namespace HS
open PySem PySem.Spec L2
/-! ### springs -/
def SprL (L : List V) (n : Nat) : Prop := ∃ c m k : Int, L = [.int c, .int m, .int k] ∧ 0 ≤ c ∧ 0 ≤ m ∧ m < 2147483647 ∧ 0 ≤ k ∧ k ≤ n
theorem SprL.mono {L : List V} {n m : Nat} (h : SprL L n) (l : n ≤ m) : SprL L m := let ⟨c, a, k, e, h1, h2, h3, h4, h5⟩ := h; ⟨c, a, k, e, h1, h2, h3, h4, by omega⟩
/-- a spring stands at sp, n draws at most were made of it -/
def Spr (H : Hp) (sp : Addr) (n : Nat) : Prop := ∃ L, H sp = some (.lst L) ∧ SprL L n
theorem Spr.mono {H : Hp} {sp : Addr} {n m : Nat} (h : Spr H sp n) (l : n ≤ m) : Spr H sp m := let ⟨L, e, s⟩ := h; ⟨L, e, s.mono l⟩
section
variable {P : Program} {w : World} {K : PySem.W.Frag} {mg : Str → Option Value} {base : Heap} {D : Ads}
def sp_draw : Sp := fun vs H Q _ => ∃ (sp : Addr) (m : Int) (n : Nat), vs = [.ref sp, .int m] ∧ Spr H sp n ∧ n ≤ 1073741824 ∧ 1 ≤ m ∧ m ≤ 1000000000000000 ∧ ∀ r L, 0 ≤ r → r < m → SprL L (n + 1) → Q (.int r) (upd H sp (.lst L))
theorem sc_draw : FnScope ["spring", "many", "digit", "mixed"] ["spring", "many"] (defScope s_law_draw) := ⟨rfl, rfl, rfl, by decide +kernel, rfl, by decide +kernel, by decide +kernel⟩
theorem ok_draw (T : Txt K mg D) : FnOk P w K mg base CX0 1 D.a_law_draw D.d_law_draw ["spring", "many"] sp_draw := by
  have nd := sc_draw.nd
  refine T.F_law_draw.ok sc_draw (fun vs H Q E h => ?_) (fun cdv A outer s H vs Q E hr h => ?_)
  · obtain ⟨sp, m, n, rfl, _⟩ := h
    rfl
  · obtain ⟨sp, m, n, rfl, ⟨L, hL, c, a, k, rfl, hc, ha, ha2, hk, hk2⟩, hn, hm1, hm2, q⟩ := h
    refine ⟨_, pss_cons (ps_if (pt_cmpR op_gt (pe_ix ix_list (pv 0) pe_int (fun _ _ => rfl)) pe_int (nomark _))
        (pss_cons (ps_set (i := 2) nd rfl (Or.inl rfl) (pe_op op_mod (pe_callTy call_int1 (by rfl) T.z_int boot_int' (pa_cons (pe_ix ix_list (pv 0) pe_int (fun _ _ => rfl)) pa_nil)) (pv 1)))
          (pss_cons (ps_asg (pe_op op_fdivW (pe_ix ix_list (pv 0) pe_int (fun _ _ => rfl)) (pv 1)) (pg_sub (pv 0) pe_int set_list)) (pss_one (ps_ret (pv 2))))) pss_nil)
      (pss_cons (ps_asg (pe_op op_add (pe_ix ix_list (pv 0) pe_int (fun _ _ => rfl)) pe_int) (pg_sub (pv 0) pe_int set_list))
      (pss_cons (ps_set (i := 3) nd rfl (Or.inl rfl) (pe_op op_mod (pe_op op_pow (pe_callTy call_int1 (by rfl) T.z_int boot_int' (pa_cons (pe_op op_add (pe_op op_add (pe_ix ix_list (pv 0) pe_int (fun _ _ => rfl)) (pe_op op_mul pe_int (pe_ix ix_list (pv 0) pe_int (fun _ _ => rfl)))) pe_int) pa_nil)) pe_int) pe_int))
      (pss_one (ps_ret (pe_op op_mod (pe_op op_fdiv (pe_op op_mod (pe_op op_pow (pe_callTy call_int1 (by rfl) T.z_int boot_int' (pa_cons (pe_op op_add (pe_op op_mul (pv 3) pe_int) (pe_op op_mul pe_int (pe_ix ix_list (pv 0) pe_int (fun _ _ => rfl)))) pa_nil)) pe_int) pe_int) pe_int) (pv 1)))))), ?_⟩
    have i0 : ∀ x y z : V, atI [x, y, z] (0 : Int) = some x := fun x y z => atI_nat (xs := [x, y, z]) (j := 0) rfl
    have i1 : ∀ x y z : V, atI [x, y, z] (1 : Int) = some y := fun x y z => atI_nat (xs := [x, y, z]) (j := 1) rfl
    have i2 : ∀ x y z : V, atI [x, y, z] (2 : Int) = some z := fun x y z => atI_nat (xs := [x, y, z]) (j := 2) rfl
    refine ⟨_, rfl, sp, _, _, _, rfl, rfl, SqL.of hL, i0 _ _ _, _, _, rfl, rfl, _, rfl, ?_⟩
    refine ite2 (fun h => ?_) (fun h => ?_)
    · refine ⟨_, rfl, sp, _, _, _, rfl, rfl, SqL.of hL, i0 _ _ _, .inl ⟨_, rfl, _, rfl, _, _, rfl, rfl, by omega, ?_⟩⟩
      refine ⟨_, rfl, sp, _, _, _, rfl, rfl, SqL.of hL, i0 _ _ _, _, rfl, _, _, rfl, rfl, wide_div (b := 60) (by omega) (by omega) (by omega) (by omega), _, rfl, sp, _, _, 0, rfl, rfl, hL, rfl, ?_⟩
      refine ⟨_, rfl, ?_⟩
      exact q _ _ (Int.emod_nonneg _ (by omega)) (Int.emod_lt_of_pos _ (by omega)) ⟨_, _, _, rfl, Int.ediv_nonneg hc (by omega), ha, ha2, hk, by omega⟩
    · refine ⟨_, rfl, sp, _, _, _, rfl, rfl, SqL.of hL, i2 _ _ _, _, _, rfl, rfl, _, rfl, sp, _, _, 2, rfl, rfl, hL, rfl, ?_⟩
      have hL2 : ∀ {u : HO}, upd H sp u sp = some u := upd_same
      refine ⟨_, rfl, sp, _, _, _, rfl, rfl, SqL.of upd_same, i1 _ _ _, _, rfl, sp, _, _, _, rfl, rfl, SqL.of upd_same, i2 _ _ _, _, _, rfl, rfl, .inl ⟨by decide, by decide⟩, _, _, rfl, rfl, _, _, rfl, rfl, .inl ⟨_, rfl, _, _, rfl, rfl, ⟨by decide, by decide, ?_⟩, _, _, rfl, rfl, (by show (0:Int) < 2147483647; decide), ?_⟩⟩
      · omega
      generalize hmx : (a + 6364137 * (k + 1) + 1442695) ^ (3 : Int).toNat % 2147483647 = mx
      have hx0 : 0 ≤ mx := by rw [← hmx]; exact Int.emod_nonneg _ (by decide)
      have hx1 : mx < 2147483647 := by rw [← hmx]; exact Int.emod_lt_of_pos _ (by decide)
      refine ⟨_, rfl, _, _, rfl, rfl, .inr ⟨by decide, by decide⟩, _, rfl, sp, _, _, _, rfl, rfl, SqL.of upd_same, i2 _ _ _, _, _, rfl, rfl, .inl ⟨by decide, by decide⟩, _, _, rfl, rfl, .inl ⟨_, rfl, _, _, rfl, rfl, ⟨by decide, by decide, ?_⟩, _, _, rfl, rfl, (by show (0:Int) < 2147483629; decide), _, _, rfl, rfl, ⟨by decide, by decide⟩, _, rfl, _, _, rfl, rfl, (by show 0 < m; omega), q _ _ (Int.emod_nonneg _ (by omega)) (Int.emod_lt_of_pos _ (by omega)) ⟨c, a, k + 1, rfl, hc, ha, ha2, by omega, by omega⟩⟩⟩
      rw [hmx]
      omega
end
end HS

set_option maxHeartbeats 4000000
namespace HS
open PySem PySem.Spec L2
/-! ### what stays beside the spring -/
theorem del_le {H : Hp} {x : Addr} : Same (del H x) H := fun b o e => by
  by_cases hb : b = x
  · rw [hb, del_same] at e; cases e
  · rw [del_ne hb] at e; exact e
theorem del_of {H : Hp} {x b : Addr} {o : HO} (h : b ≠ x) (e : H b = some o) : del H x b = some o := by rw [del_ne h]; exact e
def Frm (sp : Addr) (H H' : Hp) : Prop := Same (del H sp) (del H' sp)
theorem Frm.refl {sp : Addr} {H : Hp} : Frm sp H H := Same.refl _
theorem Frm.trans {sp : Addr} {H H1 H2 : Hp} (a : Frm sp H H1) (b : Frm sp H1 H2) : Frm sp H H2 := Same.trans a b
theorem frm_same {sp : Addr} {H H' : Hp} (s : Same H H') : Frm sp H H' := fun b o e => by
  by_cases hb : b = sp
  · rw [hb, del_same] at e; cases e
  · rw [del_ne hb] at e ⊢; exact s _ _ e
theorem del_upd_same {H : Hp} {x : Addr} {o : HO} : del (upd H x o) x = del H x := by
  funext b
  by_cases hb : b = x
  · rw [hb, del_same, del_same]
  · rw [del_ne hb, del_ne hb, upd_ne hb]
theorem frm_upd {sp : Addr} {H : Hp} {o : HO} : Frm sp H (upd H sp o) := by unfold Frm; rw [del_upd_same]; exact Same.refl _
theorem Frm.at_ {sp b : Addr} {H H' : Hp} {o : HO} (f : Frm sp H H') (n : b ≠ sp) (e : H b = some o) : H' b = some o := del_le _ _ (f _ _ (del_of n e))
theorem Spr.ne {H : Hp} {sp b : Addr} {n : Nat} (h : Spr H sp n) (e : H b = none) : b ≠ sp := fun z => by
  obtain ⟨L, e2, _⟩ := h
  rw [← z, e] at e2; cases e2
theorem Spr.same {H H' : Hp} {sp : Addr} {n : Nat} (h : Spr H sp n) (s : Same H H') : Spr H' sp n := let ⟨L, e, x⟩ := h; ⟨L, s _ _ e, x⟩
theorem Spr.upd {H : Hp} {sp b : Addr} {n : Nat} {o : HO} (h : Spr H sp n) (ne : b ≠ sp) : Spr (upd H b o) sp n := let ⟨L, e, x⟩ := h; ⟨L, by rw [upd_ne ne.symm]; exact e, x⟩
theorem spr_upd {H : Hp} {sp : Addr} {n : Nat} {L : List V} (h : SprL L n) : Spr (upd H sp (.lst L)) sp n := ⟨L, upd_same, h⟩
theorem frm_free {sp b : Addr} {H H' : Hp} (f : Frm sp H H') (n : b ≠ sp) (e : H' b = none) : H b = none := by
  cases h : H b with
  | none => rfl
  | some o => rw [f.at_ n h] at e; cases e
theorem Frm.upd_new {sp b : Addr} {H H' : Hp} {o : HO} (f : Frm sp H H') (e : H b = none) : Frm sp H (upd H' b o) := fun c u h => by
  by_cases hc : c = sp
  · rw [hc, del_same] at h; cases h
  · rw [del_ne hc] at h ⊢
    rw [upd_ne (ne_of_none h e)]
    exact f.at_ hc h
theorem seqIndex_nat {j n : Nat} (h : j < n) : seqIndex? (j : Int) n = some j := by
  unfold seqIndex?
  have h1 : ¬ ((j : Int) < 0) := by omega
  simp only [h1, if_false]
  rw [if_pos (by simp; omega)]
  simp
section
variable {X : Cx} {K : PySem.W.Frag}
theorem pe_bmK {T : String} {name : Str} {id : String} {r : V → List V → Hp → VK → Prop} {o e : Expr} {es : List Expr} {to : TE} {t : TA} {apos cpos : Pos} (hK : X.K = K) (pa : PlainAttrs T) (slot : Slot T name id) (hty : typeOf (.builtin id) = pure (.type "method_descriptor")) (hm : MtR X id r) (ho : PE X o to) (ha : PA X (e :: es) t)
    (hbase : attributeBase o name X.env (eval o X.env) = eval o X.env := by rfl)
    (hfew : ((backTo cpos (starEach (e :: es) X.env)).all (fun x => !x.1) && (backToKw cpos (keywordEach [] X.env)).all (fun x => x.1.isSome)
      && decide ((e :: es).length + ([] : List Keyword).length + (if ([] : List Keyword).isEmpty then 0 else 1) < 30)) = true := by rfl)
    (hline : (apos.endLine == cpos.line) = true := by rfl) (hs : starEach (e :: es) X.env = (false, eval e X.env) :: starEach es X.env := by rfl) (hplain : (backTo cpos (starEach es X.env)).any (·.1) = false := by rfl) :
    PE X (.Call (.Attribute o name apos) (e :: es) [] cpos) (tBM K T r to t) := by
  subst hK
  exact pe_bm pa slot hty hm ho ha hbase hfew hline hs hplain
theorem call_len_seqK (hK : X.K = K) : CallR X (.builtin "len") (fun xs H Q => ∃ p ys, xs = [.ref p] ∧ (SqL K H p ys ∨ SqT K H p ys) ∧ Q (.int ys.length) H) := by
  subst hK
  exact call_len_seq
end
section
variable {P : Program} {w : World} {K : PySem.W.Frag} {mg : Str → Option Value} {base : Heap} {D : Ads}
def sp_pick (K : PySem.W.Frag) : Sp := fun vs H Q _ => ∃ (sp a : Addr) (n : Nat) (xs : List V), vs = [.ref sp, .ref a] ∧ Spr H sp n ∧ n ≤ 1073741824 ∧ SqL K H a xs ∧ SqL K (del H sp) a xs ∧ xs ≠ [] ∧ xs.length ≤ 1000 ∧ ∀ x H', x ∈ xs → Spr H' sp (n + 1) → Frm sp H H' → Q x H'
theorem sc_pick : FnScope ["spring", "some"] ["spring", "some"] (defScope s_law_pick) := ⟨rfl, rfl, rfl, by decide +kernel, rfl, by decide +kernel, by decide +kernel⟩
theorem ok_pick (T : Txt K mg D) : FnOk P w K mg base CX0 2 D.a_law_pick D.d_law_pick ["spring", "some"] (sp_pick K) := by
  have G1 : FnOk P w K mg base CX0 1 D.a_law_draw D.d_law_draw ["spring", "many"] sp_draw := ok_draw T
  refine T.F_law_pick.ok sc_pick (fun vs H Q E h => ?_) (fun cdv A outer s H vs Q E hr h => ?_)
  · obtain ⟨sp, a, n, xs, rfl, _⟩ := h
    rfl
  · obtain ⟨sp, a, n, xs, rfl, hs, hn, h1, h2, hne, hl, q⟩ := h
    refine ⟨_, pss_one (ps_ret (pe_ix ix_list (pv 1) (pe_call G1 hr rfl T.g_law_draw T.F_law_draw.kp T.b_law_draw .nil pass0 (pa_cons (pv 0) (pa_cons (pe_callB call_len_seq (by rfl) T.z_len PySem.boot_len (pa_cons (pv 1) pa_nil)) pa_nil))) (fun _ _ => rfl))), ?_⟩
    have hpos : 0 < xs.length := List.length_pos_iff.mpr hne
    refine ⟨_, rfl, _, rfl, _, rfl, a, xs, rfl, .inl h1, sp, xs.length, n, rfl, hs, hn, by omega, by omega, fun r L r0 r1 hL => ?_⟩
    obtain ⟨j, rfl⟩ := Int.eq_ofNat_of_zero_le r0
    have hj : j < xs.length := by omega
    have f : Frm sp H (upd H sp (.lst L)) := frm_upd
    exact ⟨a, xs, j, xs[j], rfl, rfl, (del_le (H := upd H sp (.lst L)) (x := sp)).seq (f.seq h2), atI_nat (by simp [hj]), q _ _ (List.getElem_mem hj) (spr_upd hL) f⟩
def sp_mixed (K : PySem.W.Frag) : Sp := fun vs H Q _ => ∃ (sp a : Addr) (n : Nat) (xs : List V), vs = [.ref sp, .ref a] ∧ Spr H sp n ∧ n ≤ 1000000000 ∧ SeqV K H a xs ∧ xs.length ≤ 1000 ∧ ∀ p ys H', ys.Perm xs → H p = none → H' p = some (.lst ys) → Spr H' sp (n + xs.length) → Frm sp H H' → Q (.ref p) H'
theorem sc_mixed : FnScope ["spring", "some", "left", "k"] ["spring", "some"] (defScope s_law_mixed) := ⟨rfl, rfl, rfl, by decide +kernel, rfl, by decide +kernel, by decide +kernel⟩
theorem perm_pop {α : Type} {ys zs xs : List α} {j : Nat} {y : α} (h : (ys ++ zs).Perm xs) (e : zs[j]? = some y) : (ys ++ [y] ++ zs.eraseIdx j).Perm xs := by
  refine List.Perm.trans ?_ h
  rw [List.append_assoc]
  refine List.Perm.append_left ys ?_
  obtain ⟨hj, rfl⟩ := List.getElem?_eq_some_iff.mp e
  clear h
  induction zs generalizing j with
  | nil => simp at hj
  | cons z zs ih =>
    cases j with
    | zero => exact List.Perm.refl _
    | succ j =>
      have hj' : j < zs.length := by simpa using hj
      have := ih hj' (by simp [hj'])
      refine List.Perm.trans ?_ (List.Perm.cons z this)
      simp only [List.getElem_cons_succ, List.eraseIdx_cons_succ]
      exact List.Perm.swap z _ _
theorem ok_mixed (T : Txt K mg D) : FnOk P w K mg base CX0 2 D.a_law_mixed D.d_law_mixed ["spring", "some"] (sp_mixed K) := by
  have G1 : FnOk P w K mg base CX0 1 D.a_law_draw D.d_law_draw ["spring", "many"] sp_draw := ok_draw T
  have nd := sc_mixed.nd
  refine T.F_law_mixed.ok sc_mixed (fun vs H Q E h => ?_) (fun cdv A outer s H vs Q E hr h => ?_)
  · obtain ⟨sp, a, n, xs, rfl, _⟩ := h
    rfl
  · obtain ⟨sp, a, n, xs, rfl, hs, hn, h1, hl, q⟩ := h
    refine' ⟨_, pss_cons (ps_set (i := 2) nd rfl (Or.inr rfl) (pe_callTy call_list_of (by rfl) T.z_list boot_list' (pa_cons (pv 1) pa_nil)))
      (pss_one (ps_ret (pe_lc (own := [("k", 3)]) (g := gName 3) (tt := tYes) rfl nd (pi_range1 (by rfl) T.z_range (pa_cons (pe_callB call_len_seq (by rfl) T.z_len PySem.boot_len (pa_cons (pv 2) pa_nil)) pa_nil)) (blkOk_by (N := ["spring", "some", "left", "k"]) (sc := defScope s_law_mixed) (by decide +kernel))
          (fun _ _ _ _ _ => pg_name (i := 3) nd rfl (Or.inl rfl)) (fun _ _ _ _ _ => pts_nil) ?inner))), ?_⟩
    case inner =>
      exact fun _ _ _ _ _ => pe_bmK (K := K) rfl PySem.F.plainAttrs_list PySem.F.slot_list_pop PySem.F.type_list_pop mt_popAt (pv 2) (pa_cons (pe_call G1 hr rfl T.g_law_draw T.F_law_draw.kp T.b_law_draw .nil pass0 (pa_cons (pv 0) (pa_cons (pe_callB (call_len_seqK (K := K) rfl) (by rfl) T.z_len PySem.boot_len (pa_cons (pv 2) pa_nil)) pa_nil))) pa_nil)
    refine ⟨_, rfl, a, xs, rfl, h1, fun l hl0 => ?_⟩
    have lsp : l ≠ sp := hs.ne hl0
    refine ⟨_, rfl, l, xs, rfl, .inl (SqL.of upd_same), xs.length, rfl, by omega, by omega, fun Dd hD => ?_⟩
    have Dsp : Dd ≠ sp := (hs.upd lsp).ne hD
    have Dl : Dd ≠ l := fun z => by rw [z, upd_same] at hD; cases hD
    have hD0 : H Dd = none := by rw [upd_ne Dl] at hD; exact hD
    refine lc_it walk_range (fun i H' => ∃ ys zs : List V, H' Dd = some (.lst ys) ∧ H' l = some (.lst zs) ∧ (ys ++ zs).Perm xs ∧ ys.length = i ∧ zs.length = xs.length - i ∧ Spr H' sp (n + i) ∧ Frm sp H H') ⟨[], xs, upd_same, by rw [upd_ne Dl.symm, upd_same], List.Perm.refl _, rfl, rfl, (hs.upd lsp).upd Dsp, frm_same (Same.new' (same_new hl0) hD)⟩ (fun _ _ _ _ => trivial) (fun i x H2 H3 hi p y => ?_) fun H2 p => ?_
    · obtain ⟨rfl, _⟩ := y
      obtain ⟨ys, zs, e1, e2, pm, ly, lz, sp2, f2⟩ := p
      refine ⟨rfl, ?_⟩
      have hi' : i < xs.length := hi
      have zpos : 0 < zs.length := by omega
      refine ⟨_, rfl, .inl ⟨rfl, zs, SqL.of e2⟩, _, rfl, _, rfl, l, zs, rfl, .inl (SqL.of e2), sp, zs.length, n + i, rfl, sp2, by omega, by omega, by omega, fun r L r0 r1 hL => ?_⟩
      obtain ⟨j, rfl⟩ := Int.eq_ofNat_of_zero_le r0
      have hj : j < zs.length := by omega
      have el : upd H3 sp (.lst L) l = some (.lst zs) := by rw [upd_ne lsp]; exact e2
      refine ⟨l, zs, j, j, zs[j], rfl, rfl, el, by omega, by omega, seqIndex_nat hj, by simp [hj], ys, by rw [upd_ne Dl, upd_ne Dsp]; exact e1, small5000 (by omega), ys ++ [zs[j]], zs.eraseIdx j, upd_same, by rw [upd_ne Dl.symm, upd_same], perm_pop pm (by simp [hj]), by simp [ly], by rw [List.length_eraseIdx_of_lt hj]; omega, ?_, ?_⟩
      · exact ((spr_upd hL).upd lsp).upd Dsp
      · exact ((f2.trans frm_upd).upd_new hl0).upd_new hD0
    · obtain ⟨ys, zs, e1, e2, pm, ly, lz, sp2, f2⟩ := p
      have hz : zs = [] := List.eq_nil_of_length_eq_zero (by rw [lz]; exact Nat.sub_self _)
      subst hz
      rw [List.append_nil] at pm
      exact q _ _ _ pm hD0 e1 sp2 f2
end
end HS

set_option maxHeartbeats 4000000
namespace HS
open PySem PySem.Spec L2
section
variable {P : Program} {w : World} {K : PySem.W.Frag} {mg : Str → Option Value} {base : Heap} {D : Ads}
def sp_spring (K : PySem.W.Frag) : Sp := fun vs H Q _ => ∃ (a : Addr) (t : Int) (xs : List Int), vs = [.ref a, .int t] ∧ SqL K H a (xs.map V.int) ∧ xs.length ≤ 63 ∧ 0 ≤ t ∧ t ≤ 2 ∧ ∀ p H', H p = none → Spr H' p 0 → Same H H' → Q (.ref p) H'
theorem sc_spring : FnScope ["script", "turn", "cell", "mix", "at", "one"] ["script", "turn"] (defScope s_law_spring) := ⟨rfl, rfl, rfl, by decide +kernel, rfl, by decide +kernel, by decide +kernel⟩
theorem ok_spring (T : Txt K mg D) : FnOk P w K mg base CX0 1 D.a_law_spring D.d_law_spring ["script", "turn"] (sp_spring K) := by
  have nd := sc_spring.nd
  refine T.F_law_spring.ok sc_spring (fun vs H Q E h => ?_) (fun cdv A outer s H vs Q E hr h => ?_)
  · obtain ⟨a, t, xs, rfl, _⟩ := h
    rfl
  · obtain ⟨a, t, xs, rfl, hs, hl, t0, t2, q⟩ := h
    refine ⟨_, pss_cons (ps_par (i := 2) (j := 3) (by rfl) nd rfl rfl (by decide) rfl rfl (pa_cons (pe_ifExp (pt_cmpR op_lt (pv 1) (pe_callB call_len_seq (by rfl) T.z_len PySem.boot_len (pa_cons (pv 0) pa_nil)) (nomark _)) (pe_ix ix_list (pv 0) (pv 1) (fun _ _ => rfl)) (pe_op op_add (pe_op op_mul pe_int (pv 1)) (pe_callB call_len_seq (by rfl) T.z_len PySem.boot_len (pa_cons (pv 0) pa_nil))))
          (pa_cons (pe_op op_add pe_int (pe_op op_mul pe_int (pv 1))) pa_nil)) (by rfl))
      (pss_cons (ps_for PassesOwn.never rfl (pi_enum (by rfl) T.z_enumerate (pa_cons (pe_slice sl_list (pv 0) po_none (po_some pe_int)) pa_nil)) (pg_tup (by rfl) (pgs_cons (pg_name (i := 4) nd rfl (Or.inl rfl)) (pgs_cons (pg_name (i := 5) nd rfl (Or.inl rfl)) pgs_nil)))
        (pss_one (ps_set (i := 3) nd rfl (Or.inl rfl) (pe_op op_mod (pe_callTy call_int1 (by rfl) T.z_int boot_int' (pa_cons (pe_op op_add (pe_op op_add (pe_op op_add (pe_op op_mul (pv 3) pe_int) (pv 5)) (pe_op op_mul pe_int (pv 4))) pe_int) pa_nil)) pe_int))))
      (pss_one (ps_ret (pe_lst (pa_cons (pe_ifExp (pt_cmpR op_ge (pv 2) (pe_op op_pow pe_int pe_int) (nomark _)) (pv 2) pe_int) (pa_cons (pe_op op_mod (pe_callTy call_int1 (by rfl) T.z_int boot_int' (pa_cons (pe_op op_add (pv 3) (pe_op op_mul (pv 2) pe_int)) pa_nil)) pe_int) (pa_cons pe_int pa_nil))))))), ?_⟩
    have hlen : (xs.map V.int).length = xs.length := List.length_map ..
    refine ⟨_, rfl, _, rfl, a, _, rfl, .inl hs, _, _, rfl, rfl, _, rfl, ?_⟩
    refine ite2 (fun c => ?_) (fun c => ?_)
    have hc : t < xs.length := by simpa using c
    obtain ⟨j, rfl⟩ := Int.eq_ofNat_of_zero_le t0
    have hj : j < xs.length := by omega
    refine ⟨_, rfl, _, rfl, a, xs.map V.int, j, .int xs[j], rfl, rfl, hs, atI_nat (by simp [hj]), _, rfl, _, _, rfl, rfl, .inl ⟨by decide, by decide⟩, _, _, rfl, rfl, _, _, rfl, ?_⟩
    have m0 : 0 ≤ 1009 + 97 * (j : Int) := by omega
    rotate_left 1
    refine ⟨_, rfl, _, _, rfl, rfl, .inl ⟨by decide, by decide⟩, _, rfl, a, _, rfl, .inl hs, _, _, rfl, rfl, _, rfl, _, _, rfl, rfl, .inl ⟨by decide, by decide⟩, _, _, rfl, rfl, _, _, rfl, ?_⟩
    have m0 : 0 ≤ 1009 + 97 * t := by omega
    all_goals
      dsimp only
      refine ⟨_, rfl, _, rfl, a, _, rfl, hs, fun p hp => ?_⟩
      refine ⟨p, _, rfl, SqL.of upd_same, ?_⟩
      refine for_it walk_enum (fun i σ H' => i ≤ (cutV (xs.map V.int) none (some 63)).length ∧ Same H H' ∧ H' p = some (.lst (cutV (xs.map V.int) none (some 63))) ∧ ∃ t cell m : Int, ∃ v4 v5, 0 ≤ m ∧ σ = [some (.ref a), some (.int t), some (.int cell), some (.int m), v4, v5]) ⟨Nat.zero_le _, same_new hp, upd_same, _, _, _, none, none, m0, rfl⟩ (fun i σ' H' _ q => SqL.of q.2.2.1) ?_ ?_
      · rintro i x σ' H' H'' hi ⟨_, s2, e2, t, cell, m, v4, v5, hm, rfl⟩ ⟨Tt, y1, y2, rfl, hT, rfl, h1, h2⟩
        cases h1
        have hz : ∃ z : Int, y2 = .int z := by
          have hm := List.mem_of_getElem? h2
          have hm2 := List.mem_of_mem_drop (List.mem_of_mem_take hm)
          obtain ⟨z, _, hz⟩ := List.mem_map.mp hm2
          exact ⟨z, hz.symm⟩
        obtain ⟨z, rfl⟩ := hz
        refine ⟨Tt, _, rfl, SqT.of upd_same, rfl, _, _, rfl, _, _, rfl, rfl, ?_⟩
        refine ⟨_, rfl, _, _, rfl, rfl, .inr ⟨by decide, by decide⟩, _, rfl, _, _, rfl, rfl, _, rfl, _, _, rfl, rfl, .inl ⟨by decide, by decide⟩, _, _, rfl, rfl, _, _, rfl, rfl, .inl ⟨_, rfl, _, _, rfl, rfl, (by show (0:Int) < 2147483629; decide), ?_⟩⟩
        exact ⟨hi, s2.trans (same_new hT), by rw [upd_ne (ne_of_none e2 hT)]; exact e2, _, _, _, _, _, Int.emod_nonneg _ (by decide), rfl⟩
      · rintro σ' H3 ⟨_, s2, e2, t, cell, m, v4, v5, hm, rfl⟩
        refine ⟨_, rfl, _, _, rfl, rfl, ⟨by decide, by decide, by decide⟩, _, _, rfl, rfl, _, rfl, ?_⟩
        have fin : ∀ (p : Addr) (c m : Int), H3 p = none → 0 ≤ c → 0 ≤ m → m < 2147483647 → Q (.ref p) (upd H3 p (.lst [.int c, .int m, .int 0])) := fun p c m hp hc h0 h1 => q p _ (s2.free hp) ⟨_, upd_same, c, m, 0, rfl, hc, h0, h1, by omega, by omega⟩ (Same.new' s2 hp)
        have h3 : (3 : Nat) ≤ sizeLine := by decide
        refine ite2 (fun c => ?_) (fun c => ?_)
        · have hc : 0 ≤ cell := by
            have := of_decide_eq_true c
            have h4 : (0 : Int) ≤ (10 : Int) ^ (18 : Int).toNat := by decide
            omega
          exact ⟨_, rfl, _, rfl, _, rfl, _, _, rfl, rfl, .inr ⟨by decide, by decide⟩, _, _, rfl, rfl, .inl ⟨_, rfl, _, _, rfl, rfl, (by show (0:Int) < 2147483647; decide), h3, fun p hp => fin p _ _ hp hc (Int.emod_nonneg _ (by decide)) (Int.emod_lt_of_pos _ (by decide))⟩⟩
        · exact ⟨_, rfl, _, rfl, _, _, rfl, rfl, .inr ⟨by decide, by decide⟩, _, _, rfl, rfl, .inl ⟨_, rfl, _, _, rfl, rfl, (by show (0:Int) < 2147483647; decide), h3, fun p hp => fin p _ _ hp (by omega) (Int.emod_nonneg _ (by decide)) (Int.emod_lt_of_pos _ (by decide))⟩⟩
end
end HS

set_option maxHeartbeats 4000000
namespace HS
open PySem PySem.Spec L2
/-! ### loose things -/
/-- a list or a tuple of B's -/
def BS {α : Type} (K : PySem.W.Frag) (B : Hp → V → α → Prop) (H : Hp) (v : V) (ds : List α) : Prop := ∃ a vs, v = .ref a ∧ SeqV K H a vs ∧ vs.length = ds.length ∧ ∀ (i : Nat) x d, vs[i]? = some x → ds[i]? = some d → B H x d
/-- a new list or tuple of B's -/
def BN {α : Type} (B : Hp → V → α → Prop) (H : Hp) (v : V) (ds : List α) : Prop := ∃ a vs, v = .ref a ∧ (H a = some (.lst vs) ∨ H a = some (.tup vs)) ∧ vs.length = ds.length ∧ ∀ (i : Nat) x d, vs[i]? = some x → ds[i]? = some d → B H x d
/-- text or a whole number -/
def B0 (_ : Hp) (v d : V) : Prop := v = d ∧ ((∃ z, v = .str z) ∨ ∃ i, v = .int i)
def MonoB {α : Type} (B : Hp → V → α → Prop) : Prop := ∀ H H' v d, Same H H' → B H v d → B H' v d
theorem B0.mono : MonoB B0 := fun _ _ _ _ _ h => h
theorem BS.mono {α : Type} {K : PySem.W.Frag} {B : Hp → V → α → Prop} (h : MonoB B) : MonoB (BS K B) := fun H H' v d s ⟨a, vs, e, q, l, r⟩ => ⟨a, vs, e, q.same s, l, fun i x d h1 h2 => h _ _ _ _ s (r i x d h1 h2)⟩
theorem BN.mono {α : Type} {B : Hp → V → α → Prop} (h : MonoB B) : MonoB (BN B) := fun H H' v d s ⟨a, vs, e, q, l, r⟩ => ⟨a, vs, e, q.imp (s _ _) (s _ _), l, fun i x d h1 h2 => h _ _ _ _ s (r i x d h1 h2)⟩
theorem B0.ty {K : PySem.W.Frag} {H : Hp} {v d : V} (h : B0 H v d) : ∃ k, TyK K H v k ∧ isLT k = false := by
  obtain ⟨_, ⟨z, rfl⟩ | ⟨i, rfl⟩⟩ := h
  · exact ⟨.str, .str z, rfl⟩
  · exact ⟨.int, .int i, rfl⟩
section
variable {P : Program} {w : World} {K : PySem.W.Frag} {mg : Str → Option Value} {base : Heap} {D : Ads}
def sp_loose {α : Type} (B B' : Hp → V → α → Prop) (G : α → Prop) (C : Nat) : Sp := fun vs H Q _ => ∃ (sp : Addr) (v : V) (d : α) (n : Nat), vs = [.ref sp, v] ∧ Spr H sp n ∧ n + C ≤ 1000000000 ∧ B (del H sp) v d ∧ G d ∧ ∀ v' n' H', n' ≤ n + C → Spr H' sp n' → Frm sp H H' → B' (fr H H') v' d → Q v' H'
theorem sc_loose : FnScope ["spring", "thing", "found", "part"] ["spring", "thing"] (defScope s_law_loose) := ⟨rfl, rfl, rfl, by decide +kernel, rfl, by decide +kernel, by decide +kernel⟩
theorem st_set_of {te : TE} {i : Nat} {u : TS} {Dn : Ends} {σ : L2.St} {H : Hp} (h : te σ H (fun x H1 => gName i x σ H1 (u Dn))) : tSeq (tAsg te (gName i)) u Dn σ H := h
theorem fnNo {j : Nat} {f : Addr} {fd : FuncData} {ps : List Str} : FnOk P w K mg base CX0 j f fd ps (fun _ _ _ _ => False) := ⟨fun _ _ _ _ q => q.elim, fun _ _ _ _ _ _ _ _ _ _ _ _ _ q => q.elim⟩
theorem ok_loose0 (T : Txt K mg D) : FnOk P w K mg base CX0 2 D.a_law_loose D.d_law_loose ["spring", "thing"] (sp_loose B0 B0 (fun _ => True) 0) := by
  have nd := sc_loose.nd
  have G1 : FnOk P w K mg base CX0 1 D.a_law_draw D.d_law_draw ["spring", "many"] sp_draw := ok_draw T
  have G0 : FnOk P w K mg base CX0 1 D.a_law_loose D.d_law_loose ["spring", "thing"] (fun _ _ _ _ => False) := fnNo
  refine T.F_law_loose.ok sc_loose (fun vs H Q E h => ?_) (fun cdv A outer s H vs Q E hr h => ?_)
  · obtain ⟨sp, v, d, n, rfl, _⟩ := h
    rfl
  · obtain ⟨sp, v, d, n, rfl, hs, hn, hb, _, q⟩ := h
    refine' ⟨_, pss_cons (ps_if (pt_not (pt_val (pe_callB call_isK2 (by rfl) T.z_isinstance boot_isinstance (pa_cons (pv 1) (pa_cons (pe_tup (pa_cons (pe_bltn (by rfl) T.z_list boot_list' (v := .ty "list") rfl) (pa_cons (pe_bltn (by rfl) T.z_tuple boot_tuple' (v := .ty "tuple") rfl) pa_nil))) pa_nil))))) (pss_one (ps_ret (pv 1))) pss_nil)
      (pss_cons (ps_setLc (i := 2) (own := [("part", 3)]) (g := gName 3) (tt := tYes) rfl nd rfl rfl (sw_true rfl rfl rfl (by decide +kernel)) (PI.or (pi_list (pv 1)) (pi_tup (pv 1))) (blkOk_by (N := ["spring", "thing", "found", "part"]) (sc := defScope s_law_loose) (by decide +kernel))
          (fun _ _ _ _ _ => pg_name (i := 3) nd rfl (Or.inl rfl)) (fun _ _ _ _ _ => pts_nil) ?inner)
      (pss_one (ps_ret (pe_ifExp (pt_cmpR op_eq (pe_call G1 hr rfl T.g_law_draw T.F_law_draw.kp T.b_law_draw .nil pass0 (pa_cons (pv 0) (pa_cons pe_int pa_nil))) pe_int (nomark _)) (pv 2) (pe_callTy call_tuple_of (by rfl) T.z_tuple boot_tuple' (pa_cons (pv 2) pa_nil)))))), ?_⟩
    case inner =>
      exact fun _ _ _ _ _ => pe_call G0 hr rfl T.g_law_loose T.F_law_loose.kp T.b_law_loose .nil pass0 (pa_cons (pv 0) (pa_cons (pv 3) pa_nil))
    obtain ⟨kk, ty, hlt⟩ := hb.ty (K := K) (H := H)
    refine ⟨_, rfl, (by show 2 ≤ sizeLine; decide), fun t ht => ?_⟩
    refine ⟨_, t, _, _, kk, _, _, rfl, upd_same, ty.ext (same_new ht), kb_list kk, kb_tuple kk, _, rfl, ?_⟩
    change if (!isLT kk) = true then _ else _
    rw [hlt]
    have s1 : Same H (upd H t (.tup [.ty "list", .ty "tuple"])) := same_new ht
    exact iteT ⟨_, rfl, q v n _ (by omega) (hs.same s1) (frm_same s1) hb⟩
theorem fr_in {G H : Hp} {b : Addr} {o : HO} (h : fr G H b = some o) : G b = none ∧ H b = some o := by
  unfold fr at h
  by_cases e : (G b).isSome
  · rw [if_pos e] at h; cases h
  · rw [if_neg e] at h
    exact ⟨by simpa using e, h⟩
theorem ok_looseS {α : Type} {B B' : Hp → V → α → Prop} {G : α → Prop} {C k : Nat} (hB : MonoB B) (hB' : MonoB B') (T : Txt K mg D) (G0 : FnOk P w K mg base CX0 k D.a_law_loose D.d_law_loose ["spring", "thing"] (sp_loose B B' G C)) (hk : 1 ≤ k) :
    FnOk P w K mg base CX0 (k + 1) D.a_law_loose D.d_law_loose ["spring", "thing"] (sp_loose (BS K B) (BN B') (fun ds => ds.length ≤ 100 ∧ ∀ d ∈ ds, G d) (100 * C + 1)) := by
  have G1 : FnOk P w K mg base CX0 1 D.a_law_draw D.d_law_draw ["spring", "many"] sp_draw := ok_draw T
  have nd := sc_loose.nd
  refine T.F_law_loose.ok sc_loose (fun vs H Q E h => ?_) (fun cdv A outer s H vs Q E hr h => ?_)
  · obtain ⟨sp, v, d, n, rfl, _⟩ := h
    rfl
  · obtain ⟨sp, v, ds, n, rfl, hs, hn, ⟨a, vs, rfl, ha, hl, hv⟩, ⟨hl2, hg⟩, q⟩ := h
    have hr1 : Room 1 _ := hr.mono hk
    refine' ⟨_, pss_cons (ps_if (pt_not (pt_val (pe_callB call_isK2 (by rfl) T.z_isinstance boot_isinstance (pa_cons (pv 1) (pa_cons (pe_tup (pa_cons (pe_bltn (by rfl) T.z_list boot_list' (v := .ty "list") rfl) (pa_cons (pe_bltn (by rfl) T.z_tuple boot_tuple' (v := .ty "tuple") rfl) pa_nil))) pa_nil))))) (pss_one (ps_ret (pv 1))) pss_nil)
      (pss_cons (ps_setLc (i := 2) (own := [("part", 3)]) (g := gName 3) (tt := tYes) rfl nd rfl rfl (sw_true rfl rfl rfl (by decide +kernel)) (PI.or (pi_list (pv 1)) (pi_tup (pv 1))) (blkOk_by (N := ["spring", "thing", "found", "part"]) (sc := defScope s_law_loose) (by decide +kernel))
          (fun _ _ _ _ _ => pg_name (i := 3) nd rfl (Or.inl rfl)) (fun _ _ _ _ _ => pts_nil) ?inner)
      (pss_one (ps_ret (pe_ifExp (pt_cmpR op_eq (pe_call G1 hr1 rfl T.g_law_draw T.F_law_draw.kp T.b_law_draw .nil pass0 (pa_cons (pv 0) (pa_cons pe_int pa_nil))) pe_int (nomark _)) (pv 2) (pe_callTy call_tuple_of (by rfl) T.z_tuple boot_tuple' (pa_cons (pv 2) pa_nil)))))), ?_⟩
    case inner =>
      exact fun _ _ _ _ _ => pe_call G0 hr rfl T.g_law_loose T.F_law_loose.kp T.b_law_loose .nil pass0 (pa_cons (pv 0) (pa_cons (pv 3) pa_nil))
    have hG1 : Same (del H sp) H := del_le
    obtain ⟨kk, ty, hlt⟩ := (ha.same hG1).ty
    refine ⟨_, rfl, (by show 2 ≤ sizeLine; decide), fun t ht => ?_⟩
    refine ⟨_, t, _, _, kk, _, _, rfl, upd_same, ty.ext (same_new ht), kb_list kk, kb_tuple kk, _, rfl, ?_⟩
    change if (!isLT kk) = true then _ else _
    rw [hlt]
    have s1 : Same H (upd H t (.tup [.ty "list", .ty "tuple"])) := same_new ht
    have hs1 := hs.same s1
    have f1 : Frm sp H _ := frm_same s1
    have n1 : ∀ {b : Addr}, upd H t (.tup [.ty "list", .ty "tuple"]) b = none → H b = none := fun h => s1.free h
    generalize upd H t (.tup [.ty "list", .ty "tuple"]) = H1 at hs1 f1 n1 s1 ⊢
    refine iteF ?_
    unfold tNext
    dsimp only
    refine st_set_of ?_
    refine lc_or (xs := vs) (H0 := del H sp) rfl (Same.trans f1 del_le) ha (fun L i H2 => i ≤ ds.length ∧ ∃ n' acc, n' ≤ n + i * C ∧ Spr H2 sp n' ∧ Frm sp H H2 ∧ H2 L = some (.lst acc) ∧ acc.length = i ∧ ∀ (j : Nat) x d, acc[j]? = some x → ds[j]? = some d → B' (del (fr H H2) L) x d) (fun L hL => ⟨Nat.zero_le _, n, [], by omega, hs1.upd (hs1.ne hL), f1.upd_new (n1 hL), upd_same, rfl, fun j x d h => by simp at h⟩) (fun L i H2 _ _ p => by obtain ⟨_, n', acc, _, _, f2, _⟩ := p; exact Same.trans f2 del_le) (fun L i x H2 hL hx p => ?_) fun L H2 hL p => ?_
    · obtain ⟨_, n', acc, hn', hs2, f2, e2, la, hacc⟩ := p
      have hlt : i < vs.length := (List.getElem?_eq_some_iff.mp hx).1
      rw [hl] at hlt
      have Lsp := hs1.ne hL
      have hm : (i + 1) * C ≤ 100 * C := Nat.mul_le_mul_right C (by omega)
      have hm2 : (i + 1) * C = i * C + C := by rw [Nat.add_mul, Nat.one_mul]
      refine ⟨rfl, _, rfl, _, rfl, sp, x, ds[i], n', rfl, hs2, by omega, hB _ _ _ _ f2 (hv i x _ hx (by simp [hlt])), hg _ (List.getElem_mem hlt), fun v' n2 H3 hn2 hs3 f3 hb => ?_⟩
      have e3 : H3 L = some (.lst acc) := f3.at_ Lsp e2
      have spH : H sp ≠ none := by obtain ⟨_, e, _⟩ := hs; rw [e]; exact fun z => nomatch z
      refine ⟨acc, e3, small5000 (by omega), hlt, n2, acc ++ [v'], by omega, hs3.upd Lsp, (f2.trans f3).upd_new (n1 hL), upd_same, by simp [la], fun j y d hy hd => ?_⟩
      by_cases hj : j < acc.length
      · rw [List.getElem?_append_left hj] at hy
        refine hB' _ _ _ _ (fun b o e => ?_) (hacc j y d hy hd)
        have bL : b ≠ L := fun z => by rw [z, del_same] at e; cases e
        rw [del_ne bL] at e ⊢
        obtain ⟨e1, e2⟩ := fr_in e
        have bsp : b ≠ sp := fun z => spH (z ▸ e1)
        exact fr_get e1 (by rw [upd_ne bL]; exact f3.at_ bsp e2)
      · rw [List.getElem?_append_right (by omega)] at hy
        have hj2 : j < ds.length := (List.getElem?_eq_some_iff.mp hd).1
        have h0 : j - acc.length = 0 := by
          have := (List.getElem?_eq_some_iff.mp hy).1
          simpa using this
        have ej : j = i := by omega
        subst ej
        rw [h0] at hy
        cases hy
        have ed : d = ds[j] := by simp [hj2] at hd; exact hd.symm
        rw [ed]
        refine hB' _ _ _ _ (fun b o e => ?_) hb
        obtain ⟨e1, e3'⟩ := fr_in e
        have bL : b ≠ L := fun z => by rw [z, e2] at e1; cases e1
        have bsp : b ≠ sp := fun z => by
          obtain ⟨_, e, _⟩ := hs2
          rw [z, e] at e1; cases e1
        rw [del_ne bL]
        exact fr_get (frm_free f2 bsp e1) (by rw [upd_ne bL]; exact e3')
    · obtain ⟨_, n', acc, hn', hs2, f2, e2, la, hacc⟩ := p
      rw [hl] at la hn'
      have hm : ds.length * C ≤ 100 * C := Nat.mul_le_mul_right C hl2
      have Lsp := hs1.ne hL
      have spH : H sp ≠ none := by obtain ⟨_, e, _⟩ := hs; rw [e]; exact fun z => nomatch z
      refine ⟨_, rfl, sp, 2, n', rfl, hs2, by omega, by decide, by decide, fun r L' r0 r1 hL' => ?_⟩
      have s2 : Frm sp H2 (upd H2 sp (.lst L')) := frm_upd
      have hs3 : Spr (upd H2 sp (.lst L')) sp (n' + 1) := spr_upd hL'
      generalize upd H2 sp (.lst L') = H3 at s2 hs3 ⊢
      have e3 : H3 L = some (.lst acc) := s2.at_ Lsp e2
      have sB : ∀ {H4 : Hp}, Same H3 H4 → Same (del (fr H H2) L) (fr H H4) := fun {H4} s4 b o e => by
        have bL : b ≠ L := fun z => by rw [z, del_same] at e; cases e
        rw [del_ne bL] at e
        obtain ⟨e1, e2⟩ := fr_in e
        have bsp : b ≠ sp := fun z => spH (z ▸ e1)
        exact fr_get e1 (s4 _ _ (s2.at_ bsp e2))
      refine ⟨rfl, _, rfl, ite2 (fun c => ?_) fun c => ?_⟩
      · exact ⟨_, rfl, q (.ref L) (n' + 1) H3 (by omega) hs3 (f2.trans s2) ⟨L, acc, rfl, .inl (fr_get (n1 hL) e3), la, fun i x d hx hd => hB' _ _ _ _ (sB (Same.refl _)) (hacc i x d hx hd)⟩⟩
      · refine ⟨_, rfl, L, acc, rfl, .inl ⟨SqL.of e3, fun p hp => ?_⟩⟩
        have s4 : Same H3 (upd H3 p (.tup acc)) := same_new hp
        have psp := hs3.ne hp
        exact q (.ref p) (n' + 1) _ (by omega) (hs3.same s4) ((f2.trans s2).trans (frm_same s4)) ⟨p, acc, rfl, .inr (fr_get (frm_free (f2.trans s2) psp hp) upd_same), la, fun i x d hx hd => hB' _ _ _ _ (sB s4) (hacc i x d hx hd)⟩
end
end HS

set_option maxHeartbeats 4000000
namespace HS
open PySem PySem.Spec L2
/-! ### trees of names: each tie is a bridge -/
abbrev Ties := List (Str × Str)
theorem snocInd {α : Type} {p : List α → Prop} (h0 : p []) (h1 : ∀ l a, p l → p (l ++ [a])) (l : List α) : p l := by
  rw [← List.reverse_reverse l]
  induction l.reverse with
  | nil => exact h0
  | cons a r ih => rw [List.reverse_cons]; exact h1 _ _ ih
theorem lab_inv (S : Str → Bool) (es : Ties) : (∀ e ∈ es, S e.1 = S e.2) → ∀ z, S (lab es z) = S z := by
  refine snocInd (p := fun es => (∀ e ∈ es, S e.1 = S e.2) → ∀ z, S (lab es z) = S z) (fun _ z => rfl) (fun es e ih h z => ?_) es
  have ih' := ih (fun f hf => h f (List.mem_append_left _ hf))
  rw [lab_snoc]
  unfold jn
  by_cases c : lab es z = lab es e.2
  · rw [if_pos c, ih', h e (by simp), ← ih' e.2, ← c, ih']
  · rw [if_neg c, ih']
theorem lab_keep (es fs : Ties) (u v : Str) : lab es u = lab es v → lab (es ++ fs) u = lab (es ++ fs) v := by
  refine snocInd (p := fun fs => lab es u = lab es v → lab (es ++ fs) u = lab (es ++ fs) v) (fun h => by rw [List.append_nil]; exact h) (fun fs f ih h => ?_) fs
  rw [← List.append_assoc, lab_snoc]
  unfold jn
  rw [ih h]
theorem lab_edge (es : Ties) (e : Str × Str) (h : e ∈ es) : lab es e.1 = lab es e.2 := by
  obtain ⟨a, b, rfl⟩ := List.append_of_mem h
  have : lab (a ++ [e]) e.1 = lab (a ++ [e]) e.2 := by
    rw [lab_snoc]
    unfold jn
    by_cases c : lab a e.1 = lab a e.2
    · rw [if_pos c, if_pos rfl]
    · rw [if_neg c, if_pos rfl]
  have h2 := lab_keep (a ++ [e]) b e.1 e.2 this
  rwa [List.append_assoc] at h2
/-- each tie parts the people -/
def Tr (es : Ties) : Prop := ∀ (i : Nat) e, es[i]? = some e → ∃ S : Str → Bool, S e.1 ≠ S e.2 ∧ ∀ (j : Nat) f, j ≠ i → es[j]? = some f → S f.1 = S f.2
theorem Tr.lab {es : Ties} (h : Tr es) {i : Nat} {e : Str × Str} (he : es[i]? = some e) : lab (es.take i) e.1 ≠ HS.lab (es.take i) e.2 := fun z => by
  obtain ⟨S, n, k⟩ := h i e he
  have inv := lab_inv S (es.take i) (fun f hf => by
    obtain ⟨j, hj⟩ := List.getElem?_of_mem hf
    rw [List.getElem?_take] at hj
    split at hj
    · exact k j f (by omega) hj
    · cases hj)
  exact n (by rw [← inv e.1, z, inv])
/-- flips, places: g says where a tie of fs stands in es -/
theorem Tr.of {es fs : Ties} (h : Tr es) (g : Nat → Nat) (hg : ∀ i j e f, fs[i]? = some e → fs[j]? = some f → g i = g j → i = j) (hf : ∀ i f, fs[i]? = some f → ∃ e, es[g i]? = some e ∧ (f = e ∨ f = (e.2, e.1))) : Tr fs := fun i f hi => by
  obtain ⟨e, he, fe⟩ := hf i f hi
  obtain ⟨S, n, k⟩ := h _ e he
  refine ⟨S, ?_, fun j f2 hj h2 => ?_⟩
  · rcases fe with rfl | rfl
    · exact n
    · exact fun z => n z.symm
  · obtain ⟨e2, he2, fe2⟩ := hf j f2 h2
    have := k _ e2 (fun z => hj (hg j i _ _ h2 hi z)) he2
    rcases fe2 with rfl | rfl
    · exact this
    · exact this.symm
theorem tr_nil : Tr [] := fun i e h => by simp at h
/-- the ways between people -/
def Nb (es : Ties) (u v : Str) : Prop := (u, v) ∈ es ∨ (v, u) ∈ es
def Chn (es : Ties) : List Str → Prop
  | [] => True
  | [_] => True
  | u :: v :: r => Nb es u v ∧ Chn es (v :: r)
def Way (es : Ties) (ns : List Str) (u v : Str) (p : List Str) : Prop := p.head? = some u ∧ p.getLast? = some v ∧ p.Nodup ∧ Chn es p ∧ ∀ z ∈ p, z ∈ ns
def Cn (es : Ties) (ns : List Str) : Prop := ∀ u v, u ∈ ns → v ∈ ns → ∃ p, Way es ns u v p
/-- a tree: names, ties -/
structure Tree (ns : List Str) (es : Ties) : Prop where
  mem : ∀ e ∈ es, e.1 ∈ ns ∧ e.2 ∈ ns
  tr : Tr es
  cn : Cn es ns
  len : es.length + 1 = ns.length
theorem Chn.mono {es fs : Ties} (h : ∀ u v, Nb es u v → Nb fs u v) : ∀ p, Chn es p → Chn fs p
  | [], _ => trivial
  | [_], _ => trivial
  | u :: v :: r, ⟨a, b⟩ => ⟨h u v a, Chn.mono h (v :: r) b⟩
theorem Tree.good {ns : List Str} {es : Ties} (t : Tree ns es) : GoodT ns es := fun i e he => ⟨(t.mem e (List.mem_of_getElem? he)).1, (t.mem e (List.mem_of_getElem? he)).2, t.tr.lab he⟩
theorem chn_snoc (es : Ties) (x w : Str) : ∀ p : List Str, Chn es p → p.getLast? = some x → Nb es x w → Chn es (p ++ [w])
  | [], _, h, _ => by simp at h
  | [y], _, h, n => by
    simp at h
    subst h
    exact ⟨n, trivial⟩
  | u :: v :: r, ⟨a, b⟩, h, n => ⟨a, chn_snoc es x w (v :: r) b (by simpa using h) n⟩
theorem Way.snoc {es : Ties} {ns : List Str} {u v w : Str} {p : List Str} (h : Way es ns u v p) (n : Nb es v w) (hw : w ∉ p) (hn : w ∈ ns) : Way es ns u w (p ++ [w]) := by
  obtain ⟨a, b, c, d, e⟩ := h
  refine ⟨?_, by simp, ?_, chn_snoc es v w p d b n, fun z hz => ?_⟩
  · cases p with
    | nil => simp at a
    | cons x r => simpa using a
  · rw [List.nodup_append]
    exact ⟨c, by simp, fun x hx y hy => by simp at hy; subst hy; exact fun z => hw (z ▸ hx)⟩
  · rcases List.mem_append.mp hz with hz | hz
    · exact e z hz
    · simp at hz; subst hz; exact hn
theorem Way.cons {es : Ties} {ns : List Str} {u v w : Str} {p : List Str} (h : Way es ns u v p) (n : Nb es w u) (hw : w ∉ p) (hn : w ∈ ns) : Way es ns w v (w :: p) := by
  obtain ⟨a, b, c, d, e⟩ := h
  cases p with
  | nil => simp at a
  | cons x r =>
    simp at a
    subst a
    exact ⟨by simp, by simpa using b, List.nodup_cons.mpr ⟨hw, c⟩, ⟨n, d⟩, fun z hz => by
      rcases List.mem_cons.mp hz with rfl | hz
      · exact hn
      · exact e z hz⟩
theorem Way.mono {es fs : Ties} {ns ms : List Str} {u v : Str} {p : List Str} (h : Way es ns u v p) (hf : ∀ u v, Nb es u v → Nb fs u v) (hn : ∀ z ∈ ns, z ∈ ms) : Way fs ms u v p := ⟨h.1, h.2.1, h.2.2.1, Chn.mono hf p h.2.2.2.1, fun z hz => hn z (h.2.2.2.2 z hz)⟩
theorem tree_one (n : Str) : Tree [n] [] := ⟨fun e h => by simp at h, tr_nil, fun u v hu hv => ⟨[n], by simp at hu hv; subst hu; subst hv; exact ⟨rfl, rfl, by simp, trivial, fun z h => h⟩⟩, rfl⟩
/-- one more person, tied to one who stands -/
theorem Tree.grow {ns : List Str} {es : Ties} (t : Tree ns es) {u w : Str} {e : Str × Str} (hu : u ∈ ns) (hw : w ∉ ns) (he : e = (u, w) ∨ e = (w, u)) : Tree (ns ++ [w]) (es ++ [e]) := by
  have nb : Nb (es ++ [e]) u w := by
    rcases he with rfl | rfl
    · exact .inl (by simp)
    · exact .inr (by simp)
  have up : ∀ x y, Nb es x y → Nb (es ++ [e]) x y := fun x y h => h.elim (fun h => .inl (by simp [h])) fun h => .inr (by simp [h])
  have upn : ∀ z ∈ ns, z ∈ ns ++ [w] := fun z h => by simp [h]
  refine ⟨fun f hf => ?_, fun i f hi => ?_, fun x y hx hy => ?_, by simp [← t.len]⟩
  · rcases List.mem_append.mp hf with hf | hf
    · exact ⟨upn _ (t.mem f hf).1, upn _ (t.mem f hf).2⟩
    · simp at hf
      subst hf
      rcases he with rfl | rfl
      · exact ⟨upn _ hu, by simp⟩
      · exact ⟨by simp, upn _ hu⟩
  · by_cases hl : i < es.length
    · rw [List.getElem?_append_left hl] at hi
      obtain ⟨S, n, k⟩ := t.tr i f hi
      have nf : ∀ g ∈ es, g.1 ≠ w ∧ g.2 ≠ w := fun g hg => ⟨fun z => hw (z ▸ (t.mem g hg).1), fun z => hw (z ▸ (t.mem g hg).2)⟩
      have nu : u ≠ w := fun z => hw (z ▸ hu)
      refine ⟨fun z => if z = w then S u else S z, ?_, fun j g hj hg => ?_⟩
      · obtain ⟨n1, n2⟩ := nf f (List.mem_of_getElem? hi)
        simp only [n1, n2, if_false]
        exact n
      · by_cases hl2 : j < es.length
        · rw [List.getElem?_append_left hl2] at hg
          obtain ⟨n1, n2⟩ := nf g (List.mem_of_getElem? hg)
          simp only [n1, n2, if_false]
          exact k j g hj hg
        · rw [List.getElem?_append_right (by omega)] at hg
          have hm := List.mem_of_getElem? hg
          simp at hm
          subst hm
          rcases he with rfl | rfl <;> simp [nu]
    · rw [List.getElem?_append_right (by omega)] at hi
      have hm := List.mem_of_getElem? hi
      simp at hm
      subst hm
      have i0 : i = es.length := by
        have := (List.getElem?_eq_some_iff.mp hi).1
        simp at this
        omega
      have nu : u ≠ w := fun z => hw (z ▸ hu)
      refine ⟨fun z => decide (z = w), ?_, fun j g hj hg => ?_⟩
      · rcases he with rfl | rfl <;> simp [nu]
      · have hl2 : j < es.length := by
          have := (List.getElem?_eq_some_iff.mp hg).1
          simp at this
          omega
        rw [List.getElem?_append_left hl2] at hg
        have hg := t.mem g (List.mem_of_getElem? hg)
        have n1 : g.1 ≠ w := fun z => hw (z ▸ hg.1)
        have n2 : g.2 ≠ w := fun z => hw (z ▸ hg.2)
        simp [n1, n2]
  · have wn : w ∈ ns ++ [w] := by simp
    have nbs : ∀ {a b : Str}, Nb (es ++ [e]) a b → Nb (es ++ [e]) b a := fun h => h.elim .inr .inl
    rcases List.mem_append.mp hx with hx' | hx'
    · rcases List.mem_append.mp hy with hy' | hy'
      · obtain ⟨p, hp⟩ := t.cn x y hx' hy'
        exact ⟨p, hp.mono up upn⟩
      · have ey : y = w := by simpa using hy'
        obtain ⟨p, hp⟩ := t.cn x u hx' hu
        rw [ey]
        exact ⟨p ++ [w], (hp.mono up upn).snoc nb (fun z => hw (hp.2.2.2.2 _ z)) wn⟩
    · have ex : x = w := by simpa using hx'
      rw [ex]
      rcases List.mem_append.mp hy with hy' | hy'
      · obtain ⟨p, hp⟩ := t.cn u y hu hy'
        exact ⟨w :: p, (hp.mono up upn).cons (nbs nb) (fun z => hw (hp.2.2.2.2 _ z)) wn⟩
      · have ey : y = w := by simpa using hy'
        rw [ey]
        exact ⟨[w], rfl, rfl, by simp, trivial, fun z hz => by simp at hz; subst hz; exact wn⟩
/-- the same ties, some either way round, at other places; the same names in another order -/
theorem Tree.same {ns ms : List Str} {es fs : Ties} (t : Tree ns es) (hn : ∀ z, z ∈ ms ↔ z ∈ ns) (hl : ms.length = ns.length) (hl2 : fs.length = es.length) (g : Nat → Nat)
    (hg : ∀ i j e f, fs[i]? = some e → fs[j]? = some f → g i = g j → i = j) (hf : ∀ i f, fs[i]? = some f → ∃ e, es[g i]? = some e ∧ (f = e ∨ f = (e.2, e.1))) (hb : ∀ e ∈ es, e ∈ fs ∨ (e.2, e.1) ∈ fs) : Tree ms fs := by
  refine ⟨fun f h => ?_, t.tr.of g hg hf, fun u v hu hv => ?_, by rw [hl2, hl]; exact t.len⟩
  · obtain ⟨i, hi⟩ := List.getElem?_of_mem h
    obtain ⟨e, he, x⟩ := hf i f hi
    have m := t.mem e (List.mem_of_getElem? he)
    rcases x with rfl | rfl
    · exact ⟨(hn _).mpr m.1, (hn _).mpr m.2⟩
    · exact ⟨(hn _).mpr m.2, (hn _).mpr m.1⟩
  · obtain ⟨p, hp⟩ := t.cn u v ((hn _).mp hu) ((hn _).mp hv)
    refine ⟨p, hp.mono (fun x y h => ?_) fun z hz => (hn z).mpr hz⟩
    rcases h with h | h
    · rcases hb _ h with h | h
      · exact .inl h
      · exact .inr h
    · rcases hb _ h with h | h
      · exact .inr h
      · exact .inl h
end HS

set_option maxHeartbeats 4000000
namespace HS
open PySem PySem.Spec L2
theorem Tr.perm {es fs : Ties} (h : Tr es) (p : fs.Perm es) : Tr fs := fun i f hi => by
  have hl : i < fs.length := (List.getElem?_eq_some_iff.mp hi).1
  have e1 : fs = fs.take i ++ f :: fs.drop (i + 1) := by
    conv => lhs; rw [← List.take_append_drop i fs, List.drop_eq_getElem_cons hl]
    simp [hl] at hi
    rw [hi]
  obtain ⟨a, b, e2⟩ := List.append_of_mem (p.mem_iff.mp (List.mem_of_getElem? hi))
  have q : (fs.take i ++ fs.drop (i + 1)).Perm (a ++ b) := by
    have := p
    rw [e1, e2] at this
    exact (List.perm_cons f).mp ((List.perm_middle.symm.trans this).trans List.perm_middle)
  obtain ⟨S, n, k⟩ := h a.length f (by rw [e2]; simp)
  refine ⟨S, n, fun j g hj hg => ?_⟩
  have m : g ∈ fs.take i ++ fs.drop (i + 1) := by
    rcases Nat.lt_or_ge j i with c | c
    · exact List.mem_append_left _ (List.mem_of_getElem? (i := j) (by rw [List.getElem?_take, if_pos c]; exact hg))
    · refine List.mem_append_right _ (List.mem_of_getElem? (i := j - (i + 1)) ?_)
      rw [List.getElem?_drop, show i + 1 + (j - (i + 1)) = j by omega]
      exact hg
  rcases List.mem_append.mp (q.mem_iff.mp m) with m | m
  · obtain ⟨x, hx⟩ := List.getElem?_of_mem m
    have xl := (List.getElem?_eq_some_iff.mp hx).1
    exact k x g (by omega) (by rw [e2, List.getElem?_append_left xl]; exact hx)
  · obtain ⟨x, hx⟩ := List.getElem?_of_mem m
    exact k (a.length + 1 + x) g (by omega) (by rw [e2, List.getElem?_append_right (by omega)]; simpa [show a.length + 1 + x - a.length = x + 1 by omega] using hx)
theorem Tree.perm {ns ms : List Str} {es fs : Ties} (t : Tree ns es) (pn : ms.Perm ns) (p : fs.Perm es) : Tree ms fs := by
  refine ⟨fun f h => ?_, t.tr.perm p, fun u v hu hv => ?_, by rw [p.length_eq, pn.length_eq]; exact t.len⟩
  · have := t.mem f (p.mem_iff.mp h)
    exact ⟨pn.mem_iff.mpr this.1, pn.mem_iff.mpr this.2⟩
  · obtain ⟨q, hq⟩ := t.cn u v (pn.mem_iff.mp hu) (pn.mem_iff.mp hv)
    exact ⟨q, hq.mono (fun x y h => h.elim (fun h => .inl (p.mem_iff.mpr h)) fun h => .inr (p.mem_iff.mpr h)) fun z hz => pn.mem_iff.mpr hz⟩
theorem perm_map_str {ys : List V} {l : List Str} (h : ys.Perm (l.map V.str)) : ∃ zs : List Str, zs.Perm l ∧ ys = zs.map V.str := by
  let un : V → Str := fun v => match v with | .str z => z | _ => ""
  refine ⟨ys.map un, ?_, ?_⟩
  · have := h.map un
    rw [List.map_map] at this
    have e : (un ∘ V.str) = id := by funext z; rfl
    rw [e, List.map_id] at this
    exact this
  · rw [List.map_map]
    conv => lhs; rw [← List.map_id ys]
    refine List.map_congr_left fun y hy => ?_
    obtain ⟨z, _, rfl⟩ := List.mem_map.mp (h.mem_iff.mp hy)
    rfl
def TupAt (K : PySem.W.Frag) (H : Hp) (v : V) (e : Str × Str) : Prop := ∃ a, v = .ref a ∧ SqT K H a [.str e.1, .str e.2]
theorem TupsAt.cons {K : PySem.W.Frag} {H : Hp} {v : V} {ts : List V} {e : Str × Str} {es : Ties} (h1 : TupAt K H v e) (h : TupsAt K H ts es) : TupsAt K H (v :: ts) (e :: es) := ⟨by simp [h.1], fun i x f hx hf => by
  cases i with
  | zero => cases hx; cases hf; exact h1
  | succ i => exact h.2 i x f hx hf⟩
theorem TupsAt.uncons {K : PySem.W.Frag} {H : Hp} {v : V} {ts : List V} {es : Ties} (h : TupsAt K H (v :: ts) es) : ∃ e r, es = e :: r ∧ TupAt K H v e ∧ TupsAt K H ts r := by
  cases es with
  | nil => exact absurd h.1 (by simp)
  | cons e r => exact ⟨e, r, rfl, h.2 0 v e rfl rfl, by simpa using h.1, fun i x f hx hf => h.2 (i + 1) x f hx hf⟩
theorem tups_perm {K : PySem.W.Frag} {H : Hp} {ys ts : List V} (p : ys.Perm ts) : ∀ es, TupsAt K H ts es → ∃ fs, fs.Perm es ∧ TupsAt K H ys fs := by
  induction p with
  | nil => intro es h; exact ⟨es, .refl _, h⟩
  | cons x p ih =>
    intro es h
    obtain ⟨e, r, rfl, h1, h2⟩ := h.uncons
    obtain ⟨fs, pf, hf⟩ := ih r h2
    exact ⟨e :: fs, pf.cons e, hf.cons h1⟩
  | swap x y l =>
    intro es h
    obtain ⟨e, r, rfl, h1, h2⟩ := h.uncons
    obtain ⟨e2, r2, rfl, h3, h4⟩ := h2.uncons
    exact ⟨e2 :: e :: r2, .swap _ _ _, (h4.cons h1).cons h3⟩
  | trans p q ih1 ih2 =>
    intro es h
    obtain ⟨fs, pf, hf⟩ := ih2 es h
    obtain ⟨gs, pg, hg⟩ := ih1 fs hf
    exact ⟨gs, pg.trans pf, hg⟩
theorem cut_to (xs : List V) {j : Nat} (h : j ≤ xs.length) : cutV xs none (some (j : Int)) = xs.take j := by
  unfold cutV
  rw [HT.sIx_none, HT.sIx_nat, Nat.min_eq_left h]
  simp
theorem cut_from (xs : List V) {j : Nat} (h : j ≤ xs.length) : cutV xs (some (j : Int)) none = xs.drop j := by
  unfold cutV
  rw [HT.sIx_none, HT.sIx_nat, Nat.min_eq_left h]
  rw [List.take_of_length_le (by simp)]
def L15 : List Str := ["b", "aa", "c3", "z", "mill", "a", "x0", "eight888", "q", "m1", "no", "y7", "dd", "k", "w2w"]
theorem L15_ok : ∀ z ∈ L15, nameB z = true ∧ z.length ≤ 1000 ∧ PyData.strOk z = true ∧ z ≠ "nobody" := by decide +kernel
theorem L15_nd : L15.Nodup := by decide +kernel
section
variable {P : Program} {w : World} {K : PySem.W.Frag} {mg : Str → Option Value} {base : Heap} {D : Ads}
def sp_v_names : Sp := fun vs H Q _ => ∃ (sp : Addr) (m n : Nat), vs = [.ref sp, .int m] ∧ Spr H sp n ∧ n ≤ 900000000 ∧ m ≤ 15 ∧ ∀ p ns H', Good ns → (∀ z ∈ ns, OkS z ∧ z ≠ "nobody") → ns.length = m → H p = none → H' p = some (.lst (ns.map V.str)) → Spr H' sp (n + 15) → Frm sp H H' → Q (.ref p) H'
theorem sc_v_names : FnScope ["spring", "many", "some"] ["spring", "many"] (defScope s_law_v_names) := ⟨rfl, rfl, rfl, by decide +kernel, rfl, by decide +kernel, by decide +kernel⟩
theorem ok_v_names (T : Txt K mg D) : FnOk P w K mg base CX0 3 D.a_law_v_names D.d_law_v_names ["spring", "many"] sp_v_names := by
  have G1 : FnOk P w K mg base CX0 2 D.a_law_mixed D.d_law_mixed ["spring", "some"] (sp_mixed K) := ok_mixed T
  have nd := sc_v_names.nd
  refine T.F_law_v_names.ok sc_v_names (fun vs H Q E h => ?_) (fun cdv A outer s H vs Q E hr h => ?_)
  · obtain ⟨sp, m, n, rfl, _⟩ := h
    rfl
  · obtain ⟨sp, m, n, rfl, hs, hn, hm, q⟩ := h
    refine ⟨_, pss_cons (ps_set (i := 2) nd rfl (Or.inl rfl) (pe_lst (pa_cons pe_str (pa_cons pe_str (pa_cons pe_str (pa_cons pe_str (pa_cons pe_str (pa_cons pe_str (pa_cons pe_str (pa_cons pe_str (pa_cons pe_str (pa_cons pe_str (pa_cons pe_str (pa_cons pe_str (pa_cons pe_str (pa_cons pe_str (pa_cons pe_str pa_nil)))))))))))))))))
      (pss_one (ps_ret (pe_slice sl_list (pe_call G1 hr rfl T.g_law_mixed T.F_law_mixed.kp T.b_law_mixed .nil pass0 (pa_cons (pv 0) (pa_cons (pv 2) pa_nil))) po_none (po_some (pv 1))))), ?_⟩
    refine ⟨(by show 15 ≤ sizeLine; decide), fun l hl => ?_⟩
    have lsp := hs.ne hl
    refine ⟨_, rfl, _, rfl, sp, l, n, L15.map V.str, rfl, hs.upd lsp, by omega, .inl (SqL.of upd_same), by decide, fun p ys H2 pm hp e2 hs2 f2 => ?_⟩
    obtain ⟨zs, pz, rfl⟩ := perm_map_str pm
    refine ⟨_, rfl, _, rfl, p, zs.map V.str, rfl, SqL.of e2, fun p2 hp2 => ?_⟩
    have zl : zs.length = 15 := pz.length_eq
    rw [cut_to _ (by simp; omega), ← List.map_take]
    have ok : ∀ z ∈ zs.take m, z ∈ L15 := fun z hz => pz.mem_iff.mp (List.mem_of_mem_take hz)
    have f3 := (frm_same (sp := sp) (same_new (o := .lst (L15.map V.str)) hl)).trans f2
    have psp := hs2.ne hp2
    exact q p2 (zs.take m) _ ⟨fun z hz => ⟨(L15_ok z (ok z hz)).1, (L15_ok z (ok z hz)).2.1⟩, (pz.symm.nodup L15_nd).sublist (List.take_sublist _ _)⟩ (fun z hz => (L15_ok z (ok z hz)).2.2) (by simp; omega) (frm_free f3 psp hp2) upd_same (hs2.upd psp) (f3.trans (frm_same (same_new hp2)))
end
end HS

set_option maxHeartbeats 4000000
/-! a pair turned about: t[::-1] -/
namespace HS
open PySem PySem.Spec PyProof.Rows HT
section
variable {prog : Program} {w : World} {A : Around} {E : Value → Shared → Prop} {s : Shared}
theorem sliceApplied_rev2 {sl : Addr} {vs : Value} {Q : Int × Int × Nat → Shared → Prop} (hs : s.heap.IsSliceOf sl .none .none vs) (ps : IsPart vs (some (-1)))
    (h : Q (1, -1, 2) s) : wpAny (model prog w) A (Builtin.Slice.sliceApplied (.ref sl) (pure (2 : Int))) Q E s := by
  obtain ⟨os, hos, hcs, hds⟩ := id hs
  unfold Builtin.Slice.sliceApplied Builtin.Slice.sliceFields
  refine wpAny_bind (wpAny_bind (wpAny_field hos hds (x := .none) rfl (wpAny_bind (wpAny_field hos hds (x := .none) rfl (wpAny_bind (wpAny_field hos hds (x := vs) rfl (wpAny_pure ?_)))))))
  refine wpAny_bind (slicePart_ ps ?_)
  show wpAny _ _ (if ((-1 : Int) == 0) = true then _ else _) _ _ s
  rw [if_neg (by decide)]
  refine wpAny_bind (slicePart_none (wpAny_bind (slicePart_none (wpAny_bind (wpAny_pure ?_)))))
  exact wpAny_pure h
theorem getItem_tuple_rev2 {t sl : Addr} {a b vs : Value} {Q : Value → Shared → Prop} (ht : IsTup s.heap t #[a, b]) (hs : s.heap.IsSliceOf sl .none .none vs) (ps : IsPart vs (some (-1)))
    (h : Q (.ref s.heap.objs.size) { s with heap := s.heap.push { cls := .type "tuple", data := .seq #[b, a] } }) : wpAny (model prog w) A (getItem (.ref t) (.ref sl)) Q E s := by
  have htake : sizeOk (.seq #[b, a]) := by
    show (2 : Nat) ≤ sizeLine
    decide
  obtain ⟨os, hos, hcs, hds⟩ := id hs
  have hTs : s.TypeIs (.ref sl) "slice" := ⟨os, hos, hcs⟩
  unfold getItem
  try with_reducible refine wpAny_holding ?_
  first | refine wpAny_bind (wpAny_pure ?_) | skip
  refine wpAny_bind (wpAny_sequenceKey ht.typeIs (by decide) ?_)
  refine wpAny_bind (wpAny_callSpecial?_slot (name := Str.ofString "__getitem__") ht.typeIs PyProof.Rows.slot_tuple_getitem
    (wpAny_call_entry PyProof.Rows.slot_tuple_getitem ht.typeIs entry_tuple_getitem ?_ (args_tuple_getitem _ _)))
  show wpAny _ _ (Builtin.Tuple.tupleItemsOf (.ref t) >>= _) _ _ s
  refine wpAny_bind (tupleItemsOf_ ht ?_)
  refine wpAny_bind (wpAny_typeOf hTs ?_)
  rw [if_pos (by decide)]
  refine wpAny_bind (sliceApplied_rev2 hs ps ?_)
  show wpAny _ _ (if (((1 : Int)) == 0 && (-1 : Int) == 1 && (2 : Nat) == 2) = true then _ else _) _ _ s
  rw [if_neg (by decide)]
  have e : ((List.range 2).filterMap fun (m : Nat) => (#[a, b] : Array Value)[((1 : Int) + (m : Int) * (-1)).toNat]?).toArray = #[b, a] := rfl
  first
    | exact wpAny_bind (m := Builtin.Tuple.tupleExact _) (wpAny_newObj_type (wpAny_pure ⟨_, rfl, wpAny_pure h⟩) htake)
    | exact wpAny_bind (m := Builtin.Tuple.tupleExact _) (wpAny_newObj_type (wpAny_bind (wpAny_pure (wpAny_pure ⟨_, rfl, wpAny_pure h⟩))) htake)
    | exact wpAny_bind (wpAny_bind (m := Builtin.Tuple.tupleExact _) (wpAny_newObj_type (wpAny_pure (wpAny_pure ⟨_, rfl, wpAny_pure h⟩)) htake))
    | exact wpAny_bind (wpAny_bind (m := Builtin.Tuple.tupleExact _) (wpAny_newObj_type (wpAny_pure ⟨_, rfl, wpAny_pure h⟩) htake))
end
end HS
namespace HS
open PySem PySem.Spec L2
def tRevT (K : PySem.W.Frag) (te : TE) : TE := fun σ H Q => te σ H fun x H1 => ∃ a y z, x = .ref a ∧ SqT K H1 a [y, z] ∧ ∀ p, H1 p = none → Q (.ref p) (upd H1 p (.tup [z, y]))
theorem pe_revT {X : Cx} {K : PySem.W.Frag} {e : Expr} {te : TE} {k : Nat} {p1 p2 p3 pos : Pos} (hK : X.K = K) (he : PE X e te) : PE X (.Subscript e (.Slice none none (some (.UnaryOp .USub (.Constant (.int 1) k p1) p2)) p3) pos) (tRevT K te) := by
  subst hK
  refine ⟨fun pins s σ H Q I h => ?_⟩
  refine PyProof.Rows.Subscript_ (thn (he.run pins s σ H _ I h) fun v s1 ⟨x, H1, I1, r1, q1⟩ => ?_)
  obtain ⟨a, y, z, ex, hx, q⟩ := q1
  subst ex
  cases r1
  have hst : PO X (some (.UnaryOp .USub (.Constant (.int 1) k p1) p2)) (tPart (tUn (rU fun i => .int (-i)) (tC (.int 1)))) := po_some (pe_un un_neg pe_int)
  refine PySem.wpAny_Slice (thn (po_none.run pins s1 σ H1 (fun o H2 => o = none ∧ H2 = H1) I1 ⟨rfl, rfl⟩) fun vl s2 ⟨l, H2, I2, pl, el, e2⟩ => ?_)
  subst el e2
  refine thn (po_none.run pins s2 σ H2 (fun o H3 => o = none ∧ H3 = H2) I2 ⟨rfl, rfl⟩) fun vu s3 ⟨u, H3, I3, pu, eu, e3⟩ => ?_
  subst eu e3
  refine thn (hst.run pins s3 σ H3 (fun o H4 => o = some (-1) ∧ H4 = H3) I3 ⟨1, rfl, -1, rfl, rfl, rfl⟩) fun vs s4 ⟨o, H4, I4, ps, eo, e4⟩ => ?_
  subst eo e4
  cases pl
  cases pu
  have I5 : Inv X pins σ H4 { s4 with heap := s4.heap.push { cls := .type "slice", data := .fields #[.none, .none, vs] } } := I4.kept (t' := s4.toks) fun b ob q => Heap.get?_push_of_some _ q
  obtain ⟨its, r, ht, hz⟩ := I5.tuple hx
  cases r with
  | cons ry r =>
  cases r with
  | cons rz r =>
  cases r
  show wpAny (model X.prog X.w) X.A (PyProof.Rows.subscriptTail e (.Slice none none (some (.UnaryOp .USub (.Constant (.int 1) k p1) p2)) p3) (.ref a) (.ref s4.heap.objs.size)) (EP X pins σ Q) X.xe { s4 with heap := s4.heap.push { cls := .type "slice", data := .fields #[.none, .none, vs] } }
  refine PyProof.Rows.tail_any (ops := [.ref a, .ref s4.heap.objs.size]) ht.typeIs (PyProof.Rows.slot_tuple_getitem.lookup) ?_ (by with_unfolding_all rfl)
  refine getItem_tuple_rev2 ht (Heap.IsSliceOf.new _ .none .none vs) ps ?_
  refine ⟨.ref _, _, I5.laid (t' := s4.toks) (o := .tup [z, y]) (fun b ob q => Heap.get?_push_of_some _ q) (Nat.le_refl _) ?_, rfl, q _ (I5.hok.fresh (Nat.le_refl _))⟩
  exact ⟨by show (2 : Nat) ≤ sizeLine; decide, _, .cons rz (.cons ry .nil), PyProof.Rows.IsTup.new _ _⟩
end HS

set_option maxHeartbeats 4000000
namespace HS
open PySem PySem.Spec L2
/-- ties grow in a list at l -/
structure Gv (K : PySem.W.Frag) (H X : Hp) (sp l : Addr) (ts : List V) (es : Ties) (n : Nat) : Prop where
  e : X l = some (.lst ts)
  t : TupsAt K (del (del X sp) l) ts es
  s : Spr X sp n
  f : Frm sp H X
theorem del_del_upd {X : Hp} {a b : Addr} {o : HO} (h : b ≠ a) : del (del (upd X b o) a) b = del (del X a) b := by
  funext c
  by_cases hb : c = b
  · rw [hb, del_same, del_same]
  · rw [del_ne hb, del_ne hb]
    by_cases ha : c = a
    · rw [ha, del_same, del_same]
    · rw [del_ne ha, del_ne ha, upd_ne hb]
theorem Gv.draw {K : PySem.W.Frag} {H X : Hp} {sp l : Addr} {ts : List V} {es : Ties} {n : Nat} (g : Gv K H X sp l ts es n) (h : l ≠ sp) {L : List V} (hL : SprL L (n + 1)) : Gv K H (upd X sp (.lst L)) sp l ts es (n + 1) := ⟨by rw [upd_ne h]; exact g.e, by rw [del_upd_same]; exact g.t, spr_upd hL, g.f.trans frm_upd⟩
theorem same_del {H H' : Hp} {a : Addr} (s : Same H H') : Same (del H a) (del H' a) := fun b o e => by
  by_cases hb : b = a
  · rw [hb, del_same] at e; cases e
  · rw [del_ne hb] at e ⊢; exact s _ _ e
theorem Gv.new {K : PySem.W.Frag} {H X : Hp} {sp l : Addr} {ts : List V} {es : Ties} {n : Nat} (g : Gv K H X sp l ts es n) {p : Addr} {o : HO} (hp : X p = none) : Gv K H (upd X p o) sp l ts es n := ⟨by rw [upd_ne (ne_of_none g.e hp)]; exact g.e, g.t.same (same_del (same_del (same_new hp))), g.s.upd (g.s.ne hp), g.f.trans (frm_same (same_new hp))⟩
theorem Gv.add {K : PySem.W.Frag} {H X : Hp} {sp l : Addr} {ts : List V} {es : Ties} {n : Nat} (g : Gv K H X sp l ts es n) (h : l ≠ sp) (hl : H l = none) {p : Addr} {e : Str × Str} (hp : X p = some (.tup [.str e.1, .str e.2])) : Gv K H (upd X l (.lst (ts ++ [.ref p]))) sp l (ts ++ [.ref p]) (es ++ [e]) n := by
  have pl : p ≠ l := fun z => by rw [z, g.e] at hp; cases hp
  have ps : p ≠ sp := fun z => by
    obtain ⟨L, e, _⟩ := g.s
    rw [z, e] at hp; cases hp
  refine ⟨upd_same, ?_, g.s.upd h, g.f.upd_new hl⟩
  rw [del_del_upd h]
  exact g.t.snoc (SqT.of (del_of pl (del_of ps hp)))
section
variable {P : Program} {w : World} {K : PySem.W.Frag} {mg : Str → Option Value} {base : Heap} {D : Ads}
def sp_v_ties (K : PySem.W.Frag) : Sp := fun vs H Q _ => ∃ (sp a : Addr) (ns : List Str) (n : Nat), vs = [.ref sp, .ref a] ∧ Spr H sp n ∧ n ≤ 900000000 ∧ SqL K (del H sp) a (ns.map V.str) ∧ ns.Nodup ∧ ns ≠ [] ∧ ns.length ≤ 60 ∧
  ∀ p ts es H', Tree ns es → H p = none → H' p = some (.lst ts) → TupsAt K (del H' sp) ts es → Spr H' sp (n + 400) → Frm sp H H' → Q (.ref p) H'
theorem sc_v_ties : FnScope ["spring", "names", "way", "found", "k", "at", "pair"] ["spring", "names"] (defScope s_law_v_ties) := ⟨rfl, rfl, rfl, by decide +kernel, rfl, by decide +kernel, by decide +kernel⟩
theorem ok_v_ties (T : Txt K mg D) : FnOk P w K mg base CX0 3 D.a_law_v_ties D.d_law_v_ties ["spring", "names"] (sp_v_ties K) := by
  have G1 : FnOk P w K mg base CX0 1 D.a_law_draw D.d_law_draw ["spring", "many"] sp_draw := ok_draw T
  have G2 : FnOk P w K mg base CX0 2 D.a_law_mixed D.d_law_mixed ["spring", "some"] (sp_mixed K) := ok_mixed T
  have nd := sc_v_ties.nd
  refine T.F_law_v_ties.ok sc_v_ties (fun vs H Q E h => ?_) (fun cdv A outer s H vs Q E hr h => ?_)
  · obtain ⟨sp, a, ns, n, rfl, _⟩ := h
    rfl
  · obtain ⟨sp, a, ns, n, rfl, hs, hn, ha, hnd, hne, hl, q⟩ := h
    have hr1 : Room 1 _ := hr.mono (by decide)
    refine ⟨_, pss_cons (ps_par (i := 2) (j := 3) (by rfl) nd rfl rfl (by decide) rfl rfl (pa_cons (pe_call G1 hr1 rfl T.g_law_draw T.F_law_draw.kp T.b_law_draw .nil pass0 (pa_cons (pv 0) (pa_cons pe_int pa_nil))) (pa_cons (pe_lst pa_nil) pa_nil)) (by rfl))
      (pss_cons (ps_for PassesOwn.never rfl (pi_range2 (by rfl) T.z_range (pa_cons pe_int (pa_cons (pe_callB call_len_seq (by rfl) T.z_len PySem.boot_len (pa_cons (pv 1) pa_nil)) pa_nil))) (pg_name (i := 4) nd rfl (Or.inl rfl))
        (pss_cons (ps_set (i := 5) nd rfl (Or.inl rfl) (pe_ix ix_list (pe_lst (pa_cons (pe_op op_sub (pv 4) pe_int) (pa_cons pe_int (pa_cons (pe_call G1 hr1 rfl T.g_law_draw T.F_law_draw.kp T.b_law_draw .nil pass0 (pa_cons (pv 0) (pa_cons (pv 4) pa_nil)))
            (pa_cons (pe_callB (call_max2 rfl) (by rfl) T.z_max PyProof.Rows.boot_max (pa_cons pe_int (pa_cons (pe_op op_sub (pe_op op_sub (pv 4) pe_int) (pe_call G1 hr1 rfl T.g_law_draw T.F_law_draw.kp T.b_law_draw .nil pass0 (pa_cons (pv 0) (pa_cons pe_int pa_nil)))) pa_nil))) pa_nil))))) (pv 2) (fun _ _ => rfl)))
        (pss_cons (ps_set (i := 6) nd rfl (Or.inl rfl) (pe_tup (pa_cons (pe_ix ix_list (pv 1) (pv 5) (fun _ _ => rfl)) (pa_cons (pe_ix ix_list (pv 1) (pv 4) (fun _ _ => rfl)) pa_nil))))
        (pss_one (ps_expr (pe_bm PySem.F.plainAttrs_list PySem.F.slot_list_append PySem.F.type_list_append mt_append (pv 3) (pa_cons (pe_ifExp (pt_cmpR op_eq (pe_call G1 hr1 rfl T.g_law_draw T.F_law_draw.kp T.b_law_draw .nil pass0 (pa_cons (pv 0) (pa_cons pe_int pa_nil))) pe_int (nomark _)) (pv 6) (pe_revT (K := K) rfl (pv 6))) pa_nil)))))))
      (pss_one (ps_ret (pe_call G2 hr rfl T.g_law_mixed T.F_law_mixed.kp T.b_law_mixed .nil pass0 (pa_cons (pv 0) (pa_cons (pv 3) pa_nil)))))), ?_⟩
    refine ⟨_, rfl, sp, 4, n, rfl, hs, by omega, by decide, by decide, fun r L0 r0 r4 hL0 => ?_⟩
    have hs1 : Spr (upd H sp (.lst L0)) sp (n + 1) := spr_upd hL0
    have f1 : Frm sp H (upd H sp (.lst L0)) := frm_upd
    generalize upd H sp (.lst L0) = H1 at hs1 f1 ⊢
    refine ⟨(by show 0 ≤ sizeLine; decide), fun l hl1 => ?_⟩
    have lsp := hs1.ne hl1
    have hl0 := frm_free f1 lsp hl1
    have g0 : Gv K H (upd H1 l (.lst [])) sp l [] [] (n + 1) := ⟨upd_same, ⟨rfl, fun i v e h => by simp at h⟩, hs1.upd lsp, f1.trans (frm_same (same_new hl1))⟩
    generalize upd H1 l (.lst []) = H2 at g0 ⊢
    have names : ∀ {X : Hp}, Frm sp H X → SqL K X a (ns.map V.str) := fun f => del_le.seq (Same.seq f ha)
    refine ⟨_, _, rfl, _, rfl, a, _, rfl, .inl (names g0.f), _, _, rfl, ⟨by decide, by decide, by omega, by rw [List.length_map]; omega⟩, ?_⟩
    have npos : 0 < ns.length := List.length_pos_iff.mpr hne
    have em : (((ns.map V.str).length : Int) - 1).toNat = ns.length - 1 := by rw [List.length_map]; omega
    rw [em]
    refine for_it walk_range (fun i σ X => i + 1 ≤ ns.length ∧ ∃ ts es, Gv K H X sp l ts es (n + 1 + 3 * i) ∧ Tree (ns.take (i + 1)) es ∧ ∃ v4 v5 v6, σ = [some (.ref sp), some (.ref a), some (.int r), some (.ref l), v4, v5, v6]) ⟨by omega, [], [], g0, by
      obtain ⟨z, hz⟩ : ∃ z, ns = z :: ns.tail := by cases ns with
        | nil => exact absurd rfl hne
        | cons z r => exact ⟨z, rfl⟩
      rw [hz]; exact tree_one z, none, none, none, rfl⟩ (fun _ _ _ _ _ => trivial) ?_ ?_
    · rintro i x σ X0 X hi ⟨_, ts, es, g, tr, v4, v5, v6, rfl⟩ ⟨rfl, rfl⟩
      have hi' : i + 1 < ns.length := by omega
      have g' := g
      refine ⟨_, rfl, _, _, rfl, rfl, _, rfl, _, rfl, sp, _, _, rfl, g.s, by omega, by show 1 ≤ 1 + (i : Int); omega, by show 1 + (i : Int) ≤ _; omega, fun d1 L1 d1a d1b hL1 => ?_⟩
      have g1 := g.draw lsp hL1
      generalize upd X sp (.lst L1) = X1 at g1 ⊢
      refine ⟨_, rfl, _, _, rfl, rfl, _, rfl, sp, 2, _, rfl, g1.s, by omega, by decide, by decide, fun d2 L2 d2a d2b hL2 => ?_⟩
      have g2 := g1.draw lsp hL2
      generalize upd X1 sp (.lst L2) = X2 at g2 ⊢
      refine ⟨_, _, rfl, rfl, _, _, rfl, (by show 4 ≤ sizeLine; decide), fun p4 hp4 => ?_⟩
      have g3 := g2.new (o := .lst [.int (1 + (i : Int) - 1), .int 0, .int d1, .int (if (1 + (i : Int) - 1 - d2) > 0 then (1 + (i : Int) - 1 - d2) else 0)]) hp4
      have e4 : upd X2 p4 (.lst [.int (1 + (i : Int) - 1), .int 0, .int d1, .int (if (1 + (i : Int) - 1 - d2) > 0 then (1 + (i : Int) - 1 - d2) else 0)]) p4 = some (.lst [.int (1 + (i : Int) - 1), .int 0, .int d1, .int (if (1 + (i : Int) - 1 - d2) > 0 then (1 + (i : Int) - 1 - d2) else 0)]) := upd_same
      have pick : ∃ j : Nat, j ≤ i ∧ atI [V.int (1 + (i : Int) - 1), .int 0, .int d1, .int (if (1 + (i : Int) - 1 - d2) > 0 then (1 + (i : Int) - 1 - d2) else 0)] r = some (.int j) := by
        have c : r = 0 ∨ r = 1 ∨ r = 2 ∨ r = 3 := by omega
        rcases c with rfl | rfl | rfl | rfl
        · exact ⟨i, Nat.le_refl _, by rw [show (1 + (i : Int) - 1) = i by omega]; exact atI_nat (j := 0) rfl⟩
        · exact ⟨0, Nat.zero_le _, atI_nat (j := 1) rfl⟩
        · obtain ⟨m, rfl⟩ := Int.eq_ofNat_of_zero_le d1a
          exact ⟨m, by omega, atI_nat (j := 2) rfl⟩
        · refine ⟨(if (1 + (i : Int) - 1 - d2) > 0 then (1 + (i : Int) - 1 - d2) else 0).toNat, ?_, ?_⟩
          · split <;> omega
          · have h3 : 0 ≤ (if (1 + (i : Int) - 1 - d2) > 0 then (1 + (i : Int) - 1 - d2) else 0) := by split <;> omega
            rw [Int.toNat_of_nonneg h3]
            exact atI_nat (j := 3) rfl
      obtain ⟨j, hj, ej⟩ := pick
      refine ⟨_, rfl, p4, _, r, _, rfl, rfl, SqL.of e4, ej, ?_⟩
      generalize upd X2 p4 (.lst [.int (1 + (i : Int) - 1), .int 0, .int d1, .int (if (1 + (i : Int) - 1 - d2) > 0 then (1 + (i : Int) - 1 - d2) else 0)]) = X3 at g3 ⊢
      have hj2 : j < ns.length := by omega
      refine ⟨_, rfl, _, rfl, a, _, j, .str ns[j], rfl, rfl, names g3.f, atI_nat (by simp [hj2]), _, rfl, _, rfl, a, _, 1 + (i : Int), .str ns[i + 1], rfl, rfl, names g3.f, ?_, (by show 2 ≤ sizeLine; decide), fun p6 hp6 => ?_⟩
      · have : (1 + (i : Int)) = ((i + 1 : Nat) : Int) := by omega
        rw [this]
        exact atI_nat (by simp [hi'])
      have g4 := g3.new (o := .tup [.str ns[j], .str ns[i + 1]]) hp6
      have e6 : upd X3 p6 (.tup [.str ns[j], .str ns[i + 1]]) p6 = some (.tup [.str ns[j], .str ns[i + 1]]) := upd_same
      generalize upd X3 p6 (.tup [.str ns[j], .str ns[i + 1]]) = X4 at g4 e6 ⊢
      refine ⟨_, rfl, .inl ⟨rfl, ts, SqL.of g4.e⟩, ?_⟩
      refine ⟨_, rfl, sp, 2, _, rfl, g4.s, by omega, by decide, by decide, fun d3 L3 d3a d3b hL3 => ?_⟩
      have g5 := g4.draw lsp hL3
      have p6sp : p6 ≠ sp := fun z => by
        obtain ⟨L, e, _⟩ := g4.s
        rw [z, e] at e6; cases e6
      have e7 : upd X4 sp (.lst L3) p6 = some (.tup [.str ns[j], .str ns[i + 1]]) := by rw [upd_ne p6sp]; exact e6
      generalize upd X4 sp (.lst L3) = X5 at g5 e7 ⊢
      have hts : ts.length < sizeLine := by
        have := small5000 (n := ts.length) (by rw [g.t.1]; have := tr.len; rw [List.length_take] at this; omega)
        exact this
      have fin : ∀ (X : Hp) (p : Addr) (e : Str × Str), Gv K H X sp l ts es (n + 1 + 3 * i + 1 + 1 + 1) → X p = some (.tup [.str e.1, .str e.2]) → (e = (ns[j], ns[i + 1]) ∨ e = (ns[i + 1], ns[j])) →
          ∃ ts2 es2, Gv K H (upd X l (.lst (ts ++ [.ref p]))) sp l ts2 es2 (n + 1 + 3 * (i + 1)) ∧ Tree (ns.take (i + 1 + 1)) es2 := fun X p e g hp he => by
        have g9 := g.add lsp hl0 hp
        refine ⟨_, _, ⟨g9.e, g9.t, g9.s.mono (by omega), g9.f⟩, ?_⟩
        rw [take_snoc (show ns[i + 1]? = some ns[i + 1] by simp [hi'])]
        refine tr.grow (List.mem_of_getElem? (i := j) ?_) (nodup_take hnd (by simp [hi'])) he
        rw [List.getElem?_take, if_pos (by omega)]
        simp [hj2]
      refine ⟨rfl, _, rfl, ite2 (fun c => ?_) fun c => ?_⟩
      · refine ⟨_, rfl, l, ts, _, rfl, rfl, g5.e, hts, ?_⟩
        obtain ⟨ts2, es2, ga, tra⟩ := fin X5 p6 (ns[j], ns[i + 1]) g5 e7 (.inl rfl)
        exact ⟨by omega, ts2, es2, ga, tra, _, _, _, rfl⟩
      · refine ⟨_, rfl, p6, _, _, rfl, SqT.of e7, fun p7 hp7 => ?_⟩
        have g6 := g5.new (o := .tup [.str ns[i + 1], .str ns[j]]) hp7
        refine ⟨l, ts, _, rfl, rfl, g6.e, hts, ?_⟩
        obtain ⟨ts2, es2, ga, tra⟩ := fin _ p7 (ns[i + 1], ns[j]) g6 upd_same (.inr rfl)
        exact ⟨by omega, ts2, es2, ga, tra, _, _, _, rfl⟩
    · rintro σ X ⟨_, ts, es, g, tr, v4, v5, v6, rfl⟩
      have e1 : ns.length - 1 + 1 = ns.length := by omega
      rw [e1, List.take_length] at tr
      refine ⟨_, rfl, _, rfl, sp, l, _, ts, rfl, g.s, by omega, .inl (SqL.of g.e), (by rw [g.t.1]; have := tr.len; omega), fun p ys H4 pm hp e4 s4 f4 => ?_⟩
      obtain ⟨fs, pf, tf⟩ := tups_perm pm es g.t
      refine q p ys fs H4 (tr.perm (.refl _) pf) (frm_free g.f (g.s.ne hp) hp) e4 ?_ (s4.mono (by rw [g.t.1]; have := tr.len; omega)) (g.f.trans f4)
      exact tf.same (del_le.trans f4)
end
end HS

set_option maxHeartbeats 4000000
namespace HS
open PySem PySem.Spec L2
/-- what is drawn: people, ties, news -/
structure Dat (ns : List Str) (es : Ties) (ws : List Int) : Prop where
  good : Good ns
  ok : ∀ z ∈ ns, OkS z
  nn : ∀ z ∈ ns, z ≠ "nobody"
  ne : ns ≠ []
  len : ns.length ≤ 15
  tree : Tree ns es
  wl : ws.length = ns.length
  w1 : ∀ x ∈ ws, 1 ≤ x
/-- a form at f -/
def Form (K : PySem.W.Frag) (G : Hp) (f : Addr) (ns : List Str) (es : Ties) (ws : List Int) : Prop := ∃ (a b c : Addr) (ts : List V), G f = some (.tup [.ref a, .ref b, .ref c]) ∧ G a = some (.lst (ns.map V.str)) ∧ G b = some (.lst ts) ∧ TupsAt K G ts es ∧ G c = some (.lst (ws.map V.int))
theorem Form.same {K : PySem.W.Frag} {G G' : Hp} {f : Addr} {ns : List Str} {es : Ties} {ws : List Int} (h : Form K G f ns es ws) (s : Same G G') : Form K G' f ns es ws := let ⟨a, b, c, ts, h1, h2, h3, h4, h5⟩ := h; ⟨a, b, c, ts, s _ _ h1, s _ _ h2, s _ _ h3, h4.same s, s _ _ h5⟩
section
variable {P : Program} {w : World} {K : PySem.W.Frag} {mg : Str → Option Value} {base : Heap} {D : Ads}
def sp_v_drawn (K : PySem.W.Frag) : Sp := fun vs H Q _ => ∃ (sp : Addr) (m : Int) (n : Nat), vs = [.ref sp, .int m] ∧ Spr H sp n ∧ n ≤ 800000000 ∧ 1 ≤ m ∧ m ≤ 15 ∧ ∀ f ns es ws H', Dat ns es ws → Form K (del H' sp) f ns es ws → Spr H' sp (n + 1000) → Frm sp H H' → Q (.ref f) H'
theorem sc_v_drawn : FnScope ["spring", "most", "names", "ties", "great", "name"] ["spring", "most"] (defScope s_law_v_drawn) := ⟨rfl, rfl, rfl, by decide +kernel, rfl, by decide +kernel, by decide +kernel⟩
theorem ok_v_drawn (T : Txt K mg D) : FnOk P w K mg base CX0 4 D.a_law_v_drawn D.d_law_v_drawn ["spring", "most"] (sp_v_drawn K) := by
  have G1 : FnOk P w K mg base CX0 1 D.a_law_draw D.d_law_draw ["spring", "many"] sp_draw := ok_draw T
  have G2 : FnOk P w K mg base CX0 2 D.a_law_mixed D.d_law_mixed ["spring", "some"] (sp_mixed K) := ok_mixed T
  have G3 : FnOk P w K mg base CX0 2 D.a_law_pick D.d_law_pick ["spring", "some"] (sp_pick K) := ok_pick T
  have G4 : FnOk P w K mg base CX0 3 D.a_law_v_names D.d_law_v_names ["spring", "many"] sp_v_names := ok_v_names T
  have G5 : FnOk P w K mg base CX0 3 D.a_law_v_ties D.d_law_v_ties ["spring", "names"] (sp_v_ties K) := ok_v_ties T
  have nd := sc_v_drawn.nd
  refine T.F_law_v_drawn.ok sc_v_drawn (fun vs H Q E h => ?_) (fun cdv A outer s H vs Q E hr h => ?_)
  · obtain ⟨sp, m, n, rfl, _⟩ := h
    rfl
  · obtain ⟨sp, m, n, rfl, hs, hn, hm1, hm9, q⟩ := h
    have hr1 : Room 1 _ := hr.mono (by decide)
    have hr2 : Room 2 _ := hr.mono (by decide)
    refine' ⟨_, pss_cons (ps_set (i := 2) nd rfl (Or.inl rfl) (pe_call G4 hr rfl T.g_law_v_names T.F_law_v_names.kp T.b_law_v_names .nil pass0 (pa_cons (pv 0) (pa_cons (pe_op op_add pe_int (pe_call G1 hr1 rfl T.g_law_draw T.F_law_draw.kp T.b_law_draw .nil pass0 (pa_cons (pv 0) (pa_cons (pv 1) pa_nil)))) pa_nil))))
      (pss_cons (ps_asg (pe_tup (pa_cons (pe_call G5 hr rfl T.g_law_v_ties T.F_law_v_ties.kp T.b_law_v_ties .nil pass0 (pa_cons (pv 0) (pa_cons (pv 2) pa_nil)))
          (pa_cons (pe_call G3 hr2 rfl T.g_law_pick T.F_law_pick.kp T.b_law_pick .nil pass0 (pa_cons (pv 0) (pa_cons (pe_lst (pa_cons pe_int (pa_cons pe_int (pa_cons pe_int (pa_cons pe_int (pa_cons (pe_op op_pow pe_int pe_int) pa_nil)))))) pa_nil))) pa_nil))) (pg_tup (by rfl) (pgs_cons (pg_name (i := 3) nd rfl (Or.inl rfl)) (pgs_cons (pg_name (i := 4) nd rfl (Or.inr rfl)) pgs_nil))))
      (pss_one (ps_ret (pe_tup (pa_cons (pe_call G2 hr2 rfl T.g_law_mixed T.F_law_mixed.kp T.b_law_mixed .nil pass0 (pa_cons (pv 0) (pa_cons (pv 2) pa_nil))) (pa_cons (pv 3)
        (pa_cons (pe_lc (own := [("name", 5)]) (g := gName 5) (tt := tYes) rfl nd (pi_list (pv 2)) (blkOk_by (N := ["spring", "most", "names", "ties", "great", "name"]) (sc := defScope s_law_v_drawn) (by decide +kernel))
          (fun _ _ _ _ _ => pg_name (i := 5) nd rfl (Or.inl rfl)) (fun _ _ _ _ _ => pts_nil) (fun _ _ _ _ _ => pe_op op_add pe_int (pe_call G1 hr1 rfl T.g_law_draw T.F_law_draw.kp T.b_law_draw .nil pass0 (pa_cons (pv 0) (pa_cons (pv 4) pa_nil))))) pa_nil))))))), ?_⟩
    refine ⟨_, rfl, _, rfl, _, rfl, sp, m, n, rfl, hs, by omega, hm1, by omega, fun d0 L0 d0a d0b hL0 => ?_⟩
    have hs1 : Spr (upd H sp (.lst L0)) sp (n + 1) := spr_upd hL0
    have f1 : Frm sp H (upd H sp (.lst L0)) := frm_upd
    generalize upd H sp (.lst L0) = H1 at hs1 f1 ⊢
    obtain ⟨k, rfl⟩ := Int.eq_ofNat_of_zero_le d0a
    refine ⟨_, _, rfl, rfl, sp, k + 1, _, ?_, hs1, by omega, by omega, fun a ns H2 hg hok hln ha1 ea hs2 f2 => ?_⟩
    · show [V.ref sp, V.int (1 + (k : Int))] = _
      rw [show (1 + (k : Int)) = ((k + 1 : Nat) : Int) by omega]
    have f02 := f1.trans f2
    have asp : a ≠ sp := hs1.ne ha1
    refine ⟨_, rfl, _, rfl, sp, a, ns, _, rfl, hs2, by omega, SqL.of (del_of asp ea), hg.2, (fun z => by rw [z] at hln; simp at hln), by omega, fun b ts es H3 ht hb eb tt hs3 f3 => ?_⟩
    have f03 := f02.trans f3
    have bsp : b ≠ sp := hs2.ne hb
    have ea3 := f3.at_ asp ea
    refine ⟨_, rfl, _, _, rfl, rfl, ⟨by decide, by decide, by decide⟩, (by show 5 ≤ sizeLine; decide), fun p hp => ?_⟩
    have psp := hs3.ne hp
    refine ⟨sp, p, _, [.int 1, .int 1, .int 3, .int 9, .int ((10 : Int) ^ (15 : Int).toNat)], rfl, hs3.upd psp, by omega, SqL.of upd_same, SqL.of (del_of psp upd_same), by simp, by simp, fun x H4 hx hs4 f4 => ?_⟩
    have f4' : Frm sp H3 H4 := (frm_same (same_new hp)).trans f4
    have f04 := f03.trans f4'
    have gr : ∃ g : Int, x = .int g ∧ 1 ≤ g ∧ g ≤ 1000000000000000 := by
      simp at hx
      rcases hx with rfl | rfl | rfl | rfl <;> exact ⟨_, rfl, by decide, by decide⟩
    obtain ⟨g, rfl, g1, g2⟩ := gr
    have a4 : H4 a = some (.lst (ns.map V.str)) := f4'.at_ asp ea3
    refine ⟨(by show 2 ≤ sizeLine; decide), fun t2 ht2 => ?_⟩
    have t2sp := hs4.ne ht2
    refine ⟨t2, _, rfl, SqT.of upd_same, rfl, _, _, rfl, _, _, rfl, rfl, ?_⟩
    have a5 : upd H4 t2 (.tup [.ref b, .int g]) a = some (.lst (ns.map V.str)) := by rw [upd_ne (ne_of_none a4 ht2)]; exact a4
    have hs5 := hs4.upd (o := .tup [.ref b, .int g]) t2sp
    have f45 : Frm sp H4 (upd H4 t2 (.tup [.ref b, .int g])) := frm_same (same_new ht2)
    generalize upd H4 t2 (.tup [.ref b, .int g]) = H5 at a5 hs5 f45 ⊢
    have f35 := f4'.trans f45
    refine ⟨_, rfl, _, rfl, sp, a, _, ns.map V.str, rfl, hs5, by omega, .inl (SqL.of a5), by rw [List.length_map]; omega, fun a' ys H6 pm ha6 e6 hs6 f6 => ?_⟩
    obtain ⟨ms, pms, rfl⟩ := perm_map_str pm
    have a'sp := hs5.ne ha6
    have f36 := f35.trans f6
    have a6 := f6.at_ asp a5
    refine ⟨_, rfl, _, rfl, a, rfl, ⟨_, SqL.of a6⟩, fun c hc => ?_⟩
    have csp := hs6.ne hc
    refine lc_it (walk_list (xs := ns.map V.str)) (fun i X => i ≤ ns.length ∧ ∃ ws : List Int, X c = some (.lst (ws.map V.int)) ∧ ws.length = i ∧ (∀ x ∈ ws, 1 ≤ x) ∧ Spr X sp (n + 500 + i) ∧ Frm sp H6 X) ⟨Nat.zero_le _, [], upd_same, rfl, by simp, (hs6.upd csp).mono (by rw [List.length_map]; omega), frm_same (same_new hc)⟩ (fun i X _ p => by
      obtain ⟨_, ws, _, _, _, _, f⟩ := p
      exact SqL.of (f.at_ asp a6)) (fun i x X0 X hi p y => ?_) fun X p => ?_
    · obtain ⟨rfl, hx⟩ := y
      obtain ⟨_, ws, ec, wl, w1, sX, fX⟩ := p
      rw [List.length_map] at hi
      refine ⟨rfl, _, rfl, _, rfl, sp, g, _, rfl, sX, by omega, g1, g2, fun d L da db hL => ?_⟩
      refine ⟨_, _, rfl, rfl, ws.map V.int, by rw [upd_ne csp]; exact ec, small5000 (by rw [List.length_map]; omega), hi, ws ++ [1 + d], ?_, by simp [wl], fun x hx => ?_, (spr_upd hL).upd csp, (fX.trans frm_upd).upd_new hc⟩
      · rw [upd_same]; simp
      · rcases List.mem_append.mp hx with hx | hx
        · exact w1 x hx
        · simp at hx; omega
    · obtain ⟨_, ws, ec, wl, w1, sX, fX⟩ := p
      rw [List.length_map] at wl sX
      refine ⟨(by show 3 ≤ sizeLine; decide), fun f hf => ?_⟩
      have fsp := sX.ne hf
      have fr : Frm sp X (upd X f (.tup [.ref a', .ref b, .ref c])) := frm_same (same_new hf)
      have toEnd : ∀ {Y : Hp} {x : Addr} {o : HO}, Frm sp Y X → x ≠ sp → Y x = some o → del (upd X f (.tup [.ref a', .ref b, .ref c])) sp x = some o := fun fy n e => del_of n ((fy.trans fr).at_ n e)
      refine q f ms es ws _ ⟨⟨fun z hz => hg.1 z (pms.mem_iff.mp hz), pms.symm.nodup hg.2⟩, fun z hz => (hok z (pms.mem_iff.mp hz)).1, fun z hz => (hok z (pms.mem_iff.mp hz)).2, ?_, by rw [pms.length_eq]; omega, ht.perm pms (.refl _), by rw [wl, pms.length_eq], w1⟩
        ⟨a', b, c, ts, del_of fsp upd_same, toEnd fX a'sp e6, toEnd (f36.trans fX) bsp eb, tt.same ((f36.trans fX).trans fr), toEnd Frm.refl csp ec⟩ ((sX.upd fsp).mono (by omega)) (((f03.trans f36).trans fX).trans fr)
      intro z
      have := pms.length_eq
      rw [z, hln] at this
      simp at this
end
end HS

set_option maxHeartbeats 4000000
namespace HS
open PySem PySem.Spec L2
theorem list_eq_of {α : Type} {vs ds : List α} (hl : vs.length = ds.length) (h : ∀ (i : Nat) x d, vs[i]? = some x → ds[i]? = some d → x = d) : vs = ds := by
  refine List.ext_getElem hl fun i h1 h2 => h i _ _ (by simp [h1]) (by simp [h2])
theorem bn_vals {H : Hp} {v : V} {ds : List V} (h : BN B0 H v ds) : ∃ a, v = .ref a ∧ (H a = some (.lst ds) ∨ H a = some (.tup ds)) := by
  obtain ⟨a, vs, rfl, q, l, r⟩ := h
  have := list_eq_of l fun i x d h1 h2 => (r i x d h1 h2).1
  subst this
  exact ⟨a, rfl, q⟩
theorem seqN {K : PySem.W.Frag} {H : Hp} {a : Addr} {xs : List V} (h : H a = some (.lst xs) ∨ H a = some (.tup xs)) : SeqV K H a xs := h.elim (fun h => .inl (SqL.of h)) fun h => .inr (SqT.of h)
theorem bs_vals {K : PySem.W.Frag} {H : Hp} {v : V} {ds : List V} (h : BS K B0 H v ds) : ∃ a, v = .ref a ∧ SeqV K H a ds := by
  obtain ⟨a, vs, rfl, q, l, r⟩ := h
  have := list_eq_of l fun i x d h1 h2 => (r i x d h1 h2).1
  subst this
  exact ⟨a, rfl, q⟩
theorem bs_strs {K : PySem.W.Frag} {H : Hp} {a : Addr} {ns : List Str} (h : SeqV K H a (ns.map V.str)) : BS K B0 H (.ref a) (ns.map V.str) := ⟨a, _, rfl, h, rfl, fun i x d h1 h2 => by
  rw [h1] at h2
  cases h2
  obtain ⟨z, _, rfl⟩ := List.mem_map.mp (List.mem_of_getElem? h1)
  exact ⟨rfl, .inl ⟨z, rfl⟩⟩⟩
theorem bs_ints {K : PySem.W.Frag} {H : Hp} {a : Addr} {ns : List Int} (h : SeqV K H a (ns.map V.int)) : BS K B0 H (.ref a) (ns.map V.int) := ⟨a, _, rfl, h, rfl, fun i x d h1 h2 => by
  rw [h1] at h2
  cases h2
  obtain ⟨z, _, rfl⟩ := List.mem_map.mp (List.mem_of_getElem? h1)
  exact ⟨rfl, .inr ⟨z, rfl⟩⟩⟩
def prV (e : Str × Str) : List V := [.str e.1, .str e.2]
/-- pairs in new lists or tuples -/
def PairsN (H : Hp) (ts : List V) (es : Ties) : Prop := ts.length = es.length ∧ ∀ (i : Nat) v e, ts[i]? = some v → es[i]? = some e → ∃ a, v = .ref a ∧ (H a = some (.lst (prV e)) ∨ H a = some (.tup (prV e)))
theorem PairsN.pv {K : PySem.W.Frag} {H : Hp} {ts : List V} {es : Ties} (h : PairsN H ts es) : PairsV K H ts es := ⟨h.1, fun i v e h1 h2 => let ⟨a, x, y⟩ := h.2 i v e h1 h2; ⟨a, x, seqN y⟩⟩
theorem PairsN.same {H H' : Hp} {ts : List V} {es : Ties} (s : Same H H') (h : PairsN H ts es) : PairsN H' ts es := ⟨h.1, fun i v e h1 h2 => let ⟨a, x, y⟩ := h.2 i v e h1 h2; ⟨a, x, y.imp (s _ _) (s _ _)⟩⟩
theorem bn_pairs {H : Hp} {v : V} {es : Ties} (h : BN (BN B0) H v (es.map prV)) : ∃ a ts, v = .ref a ∧ (H a = some (.lst ts) ∨ H a = some (.tup ts)) ∧ PairsN H ts es := by
  obtain ⟨a, vs, rfl, q, l, r⟩ := h
  rw [List.length_map] at l
  refine ⟨a, vs, rfl, q, l, fun i x e h1 h2 => bn_vals (r i x (prV e) h1 (by rw [List.getElem?_map, h2]; rfl))⟩
theorem bs_tups {K : PySem.W.Frag} {H : Hp} {a : Addr} {ts : List V} {es : Ties} (h : SeqV K H a ts) (t : TupsAt K H ts es) : BS K (BS K B0) H (.ref a) (es.map prV) := ⟨a, ts, rfl, h, by rw [List.length_map]; exact t.1, fun i x d h1 h2 => by
  rw [List.getElem?_map] at h2
  cases he : es[i]? with
  | none => rw [he] at h2; cases h2
  | some e =>
    rw [he] at h2
    cases h2
    obtain ⟨p, rfl, hp⟩ := t.2 i x e h1 he
    refine ⟨p, _, rfl, .inr hp, rfl, fun j y d h3 h4 => ?_⟩
    change [V.str e.1, V.str e.2][j]? = some d at h4
    rw [h3] at h4
    cases h4
    have hm := List.mem_of_getElem? h3
    simp at hm
    rcases hm with rfl | rfl
    · exact ⟨rfl, .inl ⟨_, rfl⟩⟩
    · exact ⟨rfl, .inl ⟨_, rfl⟩⟩⟩
section
variable {P : Program} {w : World} {K : PySem.W.Frag} {mg : Str → Option Value} {base : Heap} {D : Ads}
/-- Village(..) of good things -/
theorem make_good {H : Hp} {R : Addr → Hp → Prop} {E : XK} {pa ta na : Addr} {ts : List V} {ns : List Str} {es : Ties} {ws : List Int} (h1 : SeqV K H pa (ns.map V.str)) (h2 : SeqV K H ta ts) (h3 : PairsV K H ts es) (h4 : SeqV K H na (ws.map V.int))
    (hg : Good ns) (hne : ns ≠ []) (hl : ns.length ≤ 1000) (ht : Tree ns es) (hwl : ws.length = ns.length) (hw : ∀ x ∈ ws, 1 ≤ x) (q : ∀ x H', H x = none → Same H H' → Vil K D.C (fr H H') x ns es ws → R x H') :
    ∀ x dx, H x = none → H dx = none → dx ≠ x → sp_vinit K D [.ref x, .ref pa, .ref ta, .ref na] (upd (upd H dx (.own x)) x (.ins D.C dx [])) (fun v H2 => v = .non ∧ R x H2) E := by
  intro x dx hx hdx ne
  have s : Same H (upd (upd H dx (.own x)) x (.ins D.C dx [])) := same_upd (Same.new' (Same.refl _) hdx) hx
  have := ht.len
  refine ⟨x, dx, _, _, _, rfl, upd_same, .inr ⟨pa, ns, rfl, h1.same s, hg, hne, hl, .inr ⟨ta, ts, es, rfl, h2.same s, h3.same s, ht.good, by omega, by omega, .inr ⟨na, ws, rfl, h4.same s, hwl, hw, fun H' hk hv => ⟨rfl, q x H' hx (fun b o e => ?_) (hv.same fun b o e => ?_)⟩⟩⟩⟩⟩
  · have bx := ne_of_none e hx
    exact hk b o bx (s _ _ e)
  · obtain ⟨e1, e2⟩ := fr_in e
    refine fr_get ?_ e2
    cases hb : H b with
    | none => rfl
    | some o =>
      have bx := ne_of_none hb hx
      rw [del_ne bx, s _ _ hb] at e1
      cases e1
def sp_v_made (K : PySem.W.Frag) (D : Ads) : Sp := fun vs H Q _ => ∃ (sp f : Addr) (n : Nat) (ns : List Str) (es : Ties) (ws : List Int), vs = [.ref sp, .ref f] ∧ Spr H sp n ∧ n ≤ 700000000 ∧ Form K (del H sp) f ns es ws ∧ Dat ns es ws ∧
  ∀ x H', Vil K D.C (fr H H') x ns es ws → Spr H' sp (n + 200) → Frm sp H H' → Q (.ref x) H'
theorem sc_v_made : FnScope ["spring", "form"] ["spring", "form"] (defScope s_law_v_made) := ⟨rfl, rfl, rfl, by decide +kernel, rfl, by decide +kernel, by decide +kernel⟩
theorem fr_mono {H H1 H2 : Hp} (s : Same H1 H2) : Same (fr H H1) (fr H H2) := fr_same s
theorem frNew {H H1 H2 : Hp} {sp : Addr} {n : Nat} (hs : Spr H sp n) (f : Frm sp H1 H2) : Same (fr H H1) H2 := fun b o e => by
  obtain ⟨e1, e2⟩ := fr_in e
  refine f.at_ (fun z => ?_) e2
  obtain ⟨_, e, _⟩ := hs
  rw [z, e] at e1; cases e1
theorem frLess {H H1 H2 : Hp} {sp : Addr} {n : Nat} (hs : Spr H1 sp n) (f : Frm sp H H1) : Same (fr H1 H2) (fr H H2) := fun b o e => by
  obtain ⟨e1, e2⟩ := fr_in e
  exact fr_get (frm_free f (hs.ne e1) e1) e2
theorem pass9 {X : Cx} : Passes (L2.CX X.prog X.w) X E0 := passes_call takes_none5 fun _ _ _ _ h => h
theorem ok_lo1 (T : Txt K mg D) : FnOk P w K mg base CX0 3 D.a_law_loose D.d_law_loose ["spring", "thing"] (sp_loose (BS K B0) (BN B0) (fun ds => ds.length ≤ 100 ∧ ∀ d ∈ ds, True) (100 * 0 + 1)) := ok_looseS B0.mono B0.mono T (ok_loose0 T) (by decide)
theorem ok_lo2 (T : Txt K mg D) : FnOk P w K mg base CX0 4 D.a_law_loose D.d_law_loose ["spring", "thing"] (sp_loose (BS K (BS K B0)) (BN (BN B0)) (fun ds => ds.length ≤ 100 ∧ ∀ d ∈ ds, d.length ≤ 100 ∧ ∀ x ∈ d, True) (100 * (100 * 0 + 1) + 1)) := ok_looseS (BS.mono B0.mono) (BN.mono B0.mono) T (ok_lo1 T) (by decide)
theorem ok_v_made (T : Txt K mg D) : FnOk P w K mg base CX0 7 D.a_law_v_made D.d_law_v_made ["spring", "form"] (sp_v_made K D) := by
  have G1 : FnOk P w K mg base CX0 3 D.a_law_loose D.d_law_loose ["spring", "thing"] _ := ok_lo1 T
  have G2 : FnOk P w K mg base CX0 4 D.a_law_loose D.d_law_loose ["spring", "thing"] _ := ok_lo2 T
  have G5 : FnOk P w K mg base (L2.CX P w) 5 D.a_v_init D.d_v_init ["self", "people", "ties", "news"] (sp_vinit K D) := ok_vinit T
  have nd := sc_v_made.nd
  refine T.F_law_v_made.ok sc_v_made (fun vs H Q E h => ?_) (fun cdv A outer s H vs Q E hr h => ?_)
  · obtain ⟨sp, f, n, ns, es, ws, rfl, _⟩ := h
    rfl
  · obtain ⟨sp, f, n, ns, es, ws, rfl, hs, hn, ⟨a, b, c, ts, ef, ea, eb, tt, ec⟩, dat, q⟩ := h
    have hr3 : Room 3 _ := hr.mono (by decide)
    have hr4 : Room 4 _ := hr.mono (by decide)
    refine ⟨_, pss_one (ps_ret (pe_make (C := D.C) T.mkr G5 hr rfl T.gC T.b_v_init .nil pass9 (pa_cons (pe_call G1 hr3 rfl T.g_law_loose T.F_law_loose.kp T.b_law_loose .nil pass0 (pa_cons (pv 0) (pa_cons (pe_ix ix_tup (pv 1) pe_int (fun _ _ => rfl)) pa_nil)))
      (pa_cons (pe_call G2 hr4 rfl T.g_law_loose T.F_law_loose.kp T.b_law_loose .nil pass0 (pa_cons (pv 0) (pa_cons (pe_ix ix_tup (pv 1) pe_int (fun _ _ => rfl)) pa_nil)))
      (pa_cons (pe_call G1 hr3 rfl T.g_law_loose T.F_law_loose.kp T.b_law_loose .nil pass0 (pa_cons (pv 0) (pa_cons (pe_ix ix_tup (pv 1) pe_int (fun _ _ => rfl)) pa_nil))) pa_nil))))), ?_⟩
    have hsT : ∀ {X : Hp}, Frm sp H X → SqT K X f [.ref a, .ref b, .ref c] := fun fx => SqT.of (del_le _ _ (fx _ _ ef))
    have hl := dat.len
    have ht := dat.tree.len
    have hw := dat.wl
    refine ⟨_, rfl, _, rfl, f, _, _, .ref a, rfl, rfl, hsT Frm.refl, atI_nat (j := 0) rfl, sp, .ref a, ns.map V.str, n, rfl, hs, by omega, bs_strs (.inl (SqL.of ea)), ⟨by rw [List.length_map]; omega, fun _ _ => trivial⟩, fun v1 n1 H1 hn1 hs1 f1 hb1 => ?_⟩
    refine ⟨_, rfl, _, rfl, f, _, _, .ref b, rfl, rfl, hsT f1, atI_nat (j := 1) rfl, sp, .ref b, es.map prV, n1, rfl, hs1, by omega, bs_tups (.inl (SqL.of (f1 _ _ eb))) (tt.same f1), ⟨by rw [List.length_map]; omega, fun d hd => ?_⟩, fun v2 n2 H2 hn2 hs2 f2 hb2 => ?_⟩
    · obtain ⟨e, _, rfl⟩ := List.mem_map.mp hd
      exact ⟨by show 2 ≤ 100; decide, fun _ _ => trivial⟩
    have f02 := f1.trans f2
    refine ⟨_, rfl, _, rfl, f, _, _, .ref c, rfl, rfl, hsT f02, atI_nat (j := 2) rfl, sp, .ref c, ws.map V.int, n2, rfl, hs2, by omega, bs_ints (.inl (SqL.of (f02 _ _ ec))), ⟨by rw [List.length_map]; omega, fun _ _ => trivial⟩, fun v3 n3 H3 hn3 hs3 f3 hb3 => ?_⟩
    have f03 := f02.trans f3
    obtain ⟨p1, rfl, q1⟩ := bn_vals hb1
    obtain ⟨p2, t2, rfl, q2, r2⟩ := bn_pairs hb2
    obtain ⟨p3, rfl, q3⟩ := bn_vals hb3
    refine make_good ((seqN q1).same (frNew hs (f2.trans f3))) ((seqN q2).same (frNew hs1 f3)) (r2.pv.same (frNew hs1 f3)) ((seqN q3).same fr_le) dat.good dat.ne (by omega) dat.tree dat.wl dat.w1 fun x H' hx s4 hv => ?_
    exact q x H' (hv.same (frLess hs3 f03)) ((hs3.same s4).mono (by omega)) (f03.trans (frm_same s4))
end
end HS

set_option maxHeartbeats 4000000
namespace HS
open PySem PySem.Spec L2
theorem pe_no {X : Cx} {e : Expr} : PE X e (fun _ _ _ => False) := ⟨fun _ _ _ _ _ _ h => h.elim⟩
theorem pss_no {X : Cx} {ss : List Stmt} : PSs X ss (fun _ _ _ => False) := ⟨fun _ _ _ _ _ _ h => h.elim⟩
theorem pt_no {X : Cx} {e : Expr} : PT X e (fun _ _ _ => False) := ⟨fun _ _ _ _ _ _ h => h.elim⟩
theorem pg_tupK {X : Cx} {K : PySem.W.Frag} {es : List Expr} {k : Nat} {t : TGs} {n : Nat} {pos : Pos} (hK : X.K = K) (hc : X.calm = true) (h : PGs X es t)
    (hn : (assignEach es X.env).length = n := by rfl) (hst : (assignEach es X.env).findIdx? (·.1) = none := by rfl) : PG X (.Tuple es k pos) (gTup K n t) := by
  subst hK
  exact pg_tup hc h hn hst
theorem walk_zipT {K : PySem.W.Frag} {a b : Addr} {xs ys : List V} {n : Nat} (hn : n = min xs.length ys.length) : Walk (RZ.ItzT K a b) n (fun H => SqT K H a xs ∧ SqT K H b ys) (YPair (fun i => xs[i]?) (fun i => ys[i]?)) := by
  subst hn
  refine ⟨fun i _ hi q => ?_, fun _ q => ⟨xs, ys, q.1, q.2, by omega⟩, fun i H v H' _ q y => ?_⟩
  · have h1 : i < xs.length := by omega
    have h2 : i < ys.length := by omega
    exact ⟨xs, ys, xs[i], ys[i], q.1, q.2, by simp [h1], by simp [h2]⟩
  · obtain ⟨T, x, z, h1, h2, h3, h4, h5⟩ := y
    exact ⟨T, x, z, h1, h2, h3, h4 xs q.1, h5 ys q.2⟩
def rIsK3 (K : PySem.W.Frag) : List V → Hp → VK → Prop := fun xs H Q => ∃ (x : V) (tp : Addr) (n m l : String) (k : Kn), xs = [x, .ref tp] ∧ H tp = some (.tup [.ty n, .ty m, .ty l]) ∧ TyK K H x k ∧ kitB k.nm n = some false ∧ kitB k.nm m = some false ∧ kitB k.nm l = some false ∧ Q (.bl false) H
section
variable {X : Cx}
theorem call_isK3 : CallR X (.builtin "isinstance") (rIsK3 X.K) := by
  intro pins s σ H xs us Q I r h
  obtain ⟨x, tp, n, m, l, k, rfl, hT, ty, e1, e2, e4, q⟩ := h
  obtain ⟨u1, u2, rfl, r1, r2⟩ := vals2 r
  cases (show u2 = Value.ref tp from r2)
  obtain ⟨P, Z, p, hx⟩ := kit_ofK I r1 ty
  obtain ⟨_, its, rv, o, h1, h2, nn, h3⟩ := (show ObjOk X.prog X.w H s.heap tp (.tup [.ty n, .ty m, .ty l]) from I.hok tp _ hT)
  have e3 := ClsV.all (.cons (.ty n) (.cons (.ty m) (.cons (.ty l) .nil))) rv
  subst e3
  obtain ⟨oc, od, dt, sl⟩ := o
  simp only at h2 h3
  subst h2 h3
  have ka : PySem.W.kitAny X.K (.type k.nm) [.type n, .type m, .type l] = some false :=
    kitAny_cons (kit_ty e1) (fun _ => kitAny_cons (kit_ty e2) (fun _ => kitAny_cons (kit_ty e4) (fun _ => kitAny_nil) fun z => nomatch z) fun z => nomatch z) fun z => nomatch z
  exact PySem.W.kia_tup Z I.kIn p h1 ka hx fun tk => ⟨.bl false, H, I.tok tk, rfl, q⟩
end
/-! ### the same data -/
def R0 (_ : Hp) (x y : V) : Prop := x = y ∧ ((∃ z, x = .str z) ∨ ∃ i, x = .int i)
def RS (K : PySem.W.Frag) (R : Hp → V → V → Prop) (H : Hp) (x y : V) : Prop := ∃ a b xs ys, x = .ref a ∧ y = .ref b ∧ ((SqL K H a xs ∧ SqL K H b ys) ∨ (SqT K H a xs ∧ SqT K H b ys)) ∧ xs.length = ys.length ∧ xs.length ≤ 1000 ∧ ∀ (i : Nat) u v, xs[i]? = some u → ys[i]? = some v → R H u v
def MonoR (R : Hp → V → V → Prop) : Prop := ∀ H H' x y, Same H H' → R H x y → R H' x y
theorem R0.mono : MonoR R0 := fun _ _ _ _ _ h => h
theorem RS.mono {K : PySem.W.Frag} {R : Hp → V → V → Prop} (h : MonoR R) : MonoR (RS K R) := fun H H' x y s ⟨a, b, xs, ys, e1, e2, q, l, l2, r⟩ => ⟨a, b, xs, ys, e1, e2, q.elim (fun q => .inl ⟨s.seq q.1, s.seq q.2⟩) (fun q => .inr ⟨SqT.same s q.1, SqT.same s q.2⟩), l, l2, fun i u v h1 h2 => h _ _ _ _ s (r i u v h1 h2)⟩
section
variable {P : Program} {w : World} {K : PySem.W.Frag} {mg : Str → Option Value} {base : Heap} {D : Ads}
def sp_same (R : Hp → V → V → Prop) : Sp := fun vs H Q _ => ∃ x y, vs = [x, y] ∧ R H x y ∧ ∀ H', Same H H' → Q (.bl true) H'
theorem sc_same : FnScope ["found", "due", "one", "other"] ["found", "due"] (defScope s_law_same) := ⟨rfl, rfl, rfl, by decide +kernel, rfl, by decide +kernel, by decide +kernel⟩
theorem ok_same0 (T : Txt K mg D) : FnOk P w K mg base CX0 1 D.a_law_same D.d_law_same ["found", "due"] (sp_same R0) := by
  have nd := sc_same.nd
  refine T.F_law_same.ok sc_same (fun vs H Q E h => ?_) (fun cdv A outer s H vs Q E hr h => ?_)
  · obtain ⟨x, y, rfl, _⟩ := h
    rfl
  · obtain ⟨x, y, rfl, ⟨rfl, hx⟩, q⟩ := h
    refine ⟨_, pss_cons (ps_if (pt_val (pe_callB call_isK (by rfl) T.z_isinstance boot_isinstance (pa_cons (pv 1) (pa_cons (pe_bltn (by rfl) T.z_dict boot_dict' (v := .ty "dict") rfl) pa_nil)))) pss_no pss_nil)
      (pss_cons (ps_if (pt_val (pe_callB call_isK2 (by rfl) T.z_isinstance boot_isinstance (pa_cons (pv 1) (pa_cons (pe_tup (pa_cons (pe_bltn (by rfl) T.z_list boot_list' (v := .ty "list") rfl) (pa_cons (pe_bltn (by rfl) T.z_tuple boot_tuple' (v := .ty "tuple") rfl) pa_nil))) pa_nil)))) pss_no pss_nil)
      (pss_cons (ps_if (PW.pt (pw_or (pt_val (pe_callB call_isK3 (by rfl) T.z_isinstance boot_isinstance (pa_cons (pv 0) (pa_cons (pe_tup (pa_cons (pe_bltn (by rfl) T.z_dict boot_dict' (v := .ty "dict") rfl) (pa_cons (pe_bltn (by rfl) T.z_list boot_list' (v := .ty "list") rfl) (pa_cons (pe_bltn (by rfl) T.z_tuple boot_tuple' (v := .ty "tuple") rfl) pa_nil)))) pa_nil))))
          (pw_or1 (pt_cmpR op_ne (pe_callB call_isK (by rfl) T.z_isinstance boot_isinstance (pa_cons (pv 0) (pa_cons (pe_bltn (by rfl) T.z_bool boot_bool' (v := .ty "bool") rfl) pa_nil))) (pe_callB call_isK (by rfl) T.z_isinstance boot_isinstance (pa_cons (pv 1) (pa_cons (pe_bltn (by rfl) T.z_bool boot_bool' (v := .ty "bool") rfl) pa_nil))) (nomark _))))) pss_no pss_nil)
      (pss_one (ps_ret (pe_cmpR op_eq (pv 0) (pv 1) (nomark _)))))), ?_⟩
    have ty : ∃ k, (∀ {H : Hp}, TyK K H x k) ∧ (k = .str ∨ k = .int) ∧ scal x x = true := by
      rcases hx with ⟨z, rfl⟩ | ⟨i, rfl⟩
      · exact ⟨.str, .str z, .inl rfl, rfl⟩
      · exact ⟨.int, .int i, .inr rfl, rfl⟩
    obtain ⟨k, ty, hk, hsc⟩ := ty
    have h2 : (2 : Nat) ≤ sizeLine := by decide
    have h3 : (3 : Nat) ≤ sizeLine := by decide
    have fin : ∀ {H2 : Hp}, Same H H2 → scal x x = true ∧ Q (.bl (decide (x = x))) H2 := fun s => ⟨hsc, by rw [decide_eq_true rfl]; exact q _ s⟩
    rcases hk with rfl | rfl
    all_goals
      refine ⟨_, rfl, x, _, _, _, rfl, ty, kb_dict _, _, rfl, iteF ?_⟩
      refine ⟨_, rfl, h2, fun t ht => ⟨x, t, _, _, _, _, _, rfl, upd_same, ty, kb_list _, kb_tuple _, _, rfl, iteF ?_⟩⟩
      have s1 : Same H (upd H t (.tup [.ty "list", .ty "tuple"])) := same_new ht
      refine ⟨_, rfl, h3, fun t3 ht3 => ⟨x, t3, _, _, _, _, rfl, upd_same, ty, kb_dict _, kb_list _, kb_tuple _, _, rfl, iteF ?_⟩⟩
      refine ⟨_, rfl, x, _, _, _, rfl, ty, kb_bool _, _, rfl, x, _, _, _, rfl, ty, kb_bool _, rfl, _, rfl, iteF ?_⟩
      exact ⟨_, rfl, _, rfl, fin (s1.trans (same_new ht3))⟩
theorem ok_sameS {R : Hp → V → V → Prop} {k : Nat} (hR : MonoR R) (T : Txt K mg D) (G0 : FnOk P w K mg base CX0 k D.a_law_same D.d_law_same ["found", "due"] (sp_same R)) :
    FnOk P w K mg base CX0 (k + 1) D.a_law_same D.d_law_same ["found", "due"] (sp_same (RS K R)) := by
  have nd := sc_same.nd
  refine T.F_law_same.ok sc_same (fun vs H Q E h => ?_) (fun cdv A outer s H vs Q E hr h => ?_)
  · obtain ⟨x, y, rfl, _⟩ := h
    rfl
  · obtain ⟨x, y, rfl, ⟨a, b, xs, ys, rfl, rfl, hab, hl, hl2, hxy⟩, q⟩ := h
    refine' ⟨_, pss_cons (ps_if (pt_val (pe_callB call_isK (by rfl) T.z_isinstance boot_isinstance (pa_cons (pv 1) (pa_cons (pe_bltn (by rfl) T.z_dict boot_dict' (v := .ty "dict") rfl) pa_nil)))) pss_no pss_nil)
      (pss_cons (ps_if (pt_val (pe_callB call_isK2 (by rfl) T.z_isinstance boot_isinstance (pa_cons (pv 1) (pa_cons (pe_tup (pa_cons (pe_bltn (by rfl) T.z_list boot_list' (v := .ty "list") rfl) (pa_cons (pe_bltn (by rfl) T.z_tuple boot_tuple' (v := .ty "tuple") rfl) pa_nil))) pa_nil))))
        (pss_cons (ps_if (PW.pt (pw_or (pt_cmpR op_ne (pe_callB call_isK (by rfl) T.z_isinstance boot_isinstance (pa_cons (pv 0) (pa_cons (pe_bltn (by rfl) T.z_list boot_list' (v := .ty "list") rfl) pa_nil))) (pe_callB call_isK (by rfl) T.z_isinstance boot_isinstance (pa_cons (pv 1) (pa_cons (pe_bltn (by rfl) T.z_list boot_list' (v := .ty "list") rfl) pa_nil))) (nomark _))
            (pw_or1 (pt_cmpR op_ne (pe_callB call_isK (by rfl) T.z_isinstance boot_isinstance (pa_cons (pv 0) (pa_cons (pe_bltn (by rfl) T.z_tuple boot_tuple' (v := .ty "tuple") rfl) pa_nil))) (pe_callB call_isK (by rfl) T.z_isinstance boot_isinstance (pa_cons (pv 1) (pa_cons (pe_bltn (by rfl) T.z_tuple boot_tuple' (v := .ty "tuple") rfl) pa_nil))) (nomark _))))) pss_no pss_nil)
        (pss_one (ps_ret (pe_and (pe_cmpR op_eq (pe_callB call_len_seq (by rfl) T.z_len PySem.boot_len (pa_cons (pv 0) pa_nil)) (pe_callB call_len_seq (by rfl) T.z_len PySem.boot_len (pa_cons (pv 1) pa_nil)) (nomark _))
          (pe_one (pe_callB (cr_all rfl) (by rfl) T.z_all boot_all' (pa_cons (pe_lc (own := [("one", 2), ("other", 3)]) (tt := tYes) rfl nd (RZ.pi_zipA (by rfl) T.z_zip (pa_cons (pv 0) (pa_cons (pv 1) pa_nil))) (blkOk_by (N := ["found", "due", "one", "other"]) (sc := defScope s_law_same) (by decide +kernel))
            ?tgt (fun _ _ _ _ _ => pts_nil) (fun _ _ _ _ _ => pe_call G0 hr rfl T.g_law_same T.F_law_same.kp T.b_law_same .nil pass0 (pa_cons (pv 2) (pa_cons (pv 3) pa_nil)))) pa_nil))))))) pss_nil)
      pss_no), ?_⟩
    case tgt => exact fun _ _ _ _ _ => pg_tupK (n := 2) (K := K) rfl (by rfl) (pgs_cons (pg_name (i := 2) nd rfl (Or.inl rfl)) (pgs_cons (pg_name (i := 3) nd rfl (Or.inl rfl)) pgs_nil))
    have h2 : (2 : Nat) ≤ sizeLine := by decide
    have fin : ∀ {H2 : Hp} (Dd : Addr), Same H H2 → H2 Dd = some (.lst (((List.range xs.length).filter (fun _ => true)).map fun _ => V.bl true)) →
          ∃ (a : Addr) (bs : List Bool), ([V.ref Dd] : List V) = [V.ref a] ∧ SqL K H2 a (bs.map V.bl) ∧ Q (.bl (bs.all id)) H2 := fun {H2} Dd s2 e2 => by
      refine ⟨Dd, (List.range xs.length).map fun _ => true, rfl, SqL.of ?_, ?_⟩
      · rw [e2, List.map_map, filter_true']; rfl
      · have : ((List.range xs.length).map fun _ => true).all id = true := by simp
        rw [this]; exact q _ s2
    rcases hab with ⟨ha, hb⟩ | ⟨ha, hb⟩
    · refine ⟨_, rfl, .ref b, _, .lst, _, rfl, TyK.seqL hb, kb_dict _, _, rfl, iteF ?_⟩
      refine ⟨_, rfl, h2, fun t ht => ⟨.ref b, t, _, _, .lst, _, _, rfl, upd_same, (TyK.seqL hb).ext (same_new ht), kb_list _, kb_tuple _, _, rfl, iteT ?_⟩⟩
      have s1 : Same H (upd H t (.tup [.ty "list", .ty "tuple"])) := same_new ht
      generalize upd H t (.tup [.ty "list", .ty "tuple"]) = H1 at s1 ⊢
      have ha1 := Same.seq s1 ha
      have hb1 := Same.seq s1 hb
      refine ⟨_, rfl, .ref a, _, .lst, _, rfl, TyK.seqL ha1, kb_list _, _, rfl, .ref b, _, .lst, _, rfl, TyK.seqL hb1, kb_list _, rfl, _, rfl, iteF ?_⟩
      refine ⟨_, rfl, .ref a, _, .lst, _, rfl, TyK.seqL ha1, kb_tuple _, _, rfl, .ref b, _, .lst, _, rfl, TyK.seqL hb1, kb_tuple _, rfl, _, rfl, iteF ?_⟩
      refine ⟨_, rfl, a, xs, rfl, .inl ha1, _, rfl, b, ys, rfl, .inl hb1, rfl, _, rfl, ?_⟩
      rw [hl, decide_eq_true rfl]
      refine iteT ?_
      refine ⟨_, rfl, _, rfl, a, b, xs, ys, rfl, .inl ⟨ha1, hb1, fun Dd hD => ?_⟩⟩
      refine lc_growC (walk_zip (n := xs.length) (by omega)) (fun _ => true) (fun _ => V.bl true) hD (by omega) (fun H2 s2 => ⟨Same.seq s2 ha1, Same.seq s2 hb1⟩) (fun i x H2 H3 hi s2 yy N0 N1 n0 n1 => ?_) fun H2 s2 e2 => fin Dd (s1.trans s2) e2
      obtain ⟨Tt, u, v, rfl, hT, rfl, hu, hv⟩ := yy
      refine ⟨Tt, _, rfl, SqT.of upd_same, rfl, _, _, rfl, _, _, rfl, rfl, rfl, ?_⟩
      have s3 := s2.trans (same_new (o := .tup [u, v]) hT)
      exact ⟨_, rfl, _, rfl, u, v, rfl, hR _ _ _ _ (s1.trans s3) (hxy i u v hu hv), fun H4 s4 => n1 _ rfl ((same_new hT).trans s4)⟩
    · refine ⟨_, rfl, .ref b, _, .tup, _, rfl, TyK.seqT hb, kb_dict _, _, rfl, iteF ?_⟩
      refine ⟨_, rfl, h2, fun t ht => ⟨.ref b, t, _, _, .tup, _, _, rfl, upd_same, (TyK.seqT hb).ext (same_new ht), kb_list _, kb_tuple _, _, rfl, iteT ?_⟩⟩
      have s1 : Same H (upd H t (.tup [.ty "list", .ty "tuple"])) := same_new ht
      generalize upd H t (.tup [.ty "list", .ty "tuple"]) = H1 at s1 ⊢
      have ha1 := SqT.same s1 ha
      have hb1 := SqT.same s1 hb
      refine ⟨_, rfl, .ref a, _, .tup, _, rfl, TyK.seqT ha1, kb_list _, _, rfl, .ref b, _, .tup, _, rfl, TyK.seqT hb1, kb_list _, rfl, _, rfl, iteF ?_⟩
      refine ⟨_, rfl, .ref a, _, .tup, _, rfl, TyK.seqT ha1, kb_tuple _, _, rfl, .ref b, _, .tup, _, rfl, TyK.seqT hb1, kb_tuple _, rfl, _, rfl, iteF ?_⟩
      refine ⟨_, rfl, a, xs, rfl, .inr ha1, _, rfl, b, ys, rfl, .inr hb1, rfl, _, rfl, ?_⟩
      rw [hl, decide_eq_true rfl]
      refine iteT ?_
      refine ⟨_, rfl, _, rfl, a, b, xs, ys, rfl, .inr ⟨ha1, hb1, fun Dd hD => ?_⟩⟩
      refine lc_growC (walk_zipT (n := xs.length) (by omega)) (fun _ => true) (fun _ => V.bl true) hD (by omega) (fun H2 s2 => ⟨SqT.same s2 ha1, SqT.same s2 hb1⟩) (fun i x H2 H3 hi s2 yy N0 N1 n0 n1 => ?_) fun H2 s2 e2 => fin Dd (s1.trans s2) e2
      obtain ⟨Tt, u, v, rfl, hT, rfl, hu, hv⟩ := yy
      refine ⟨Tt, _, rfl, SqT.of upd_same, rfl, _, _, rfl, _, _, rfl, rfl, rfl, ?_⟩
      have s3 := s2.trans (same_new (o := .tup [u, v]) hT)
      exact ⟨_, rfl, _, rfl, u, v, rfl, hR _ _ _ _ (s1.trans s3) (hxy i u v hu hv), fun H4 s4 => n1 _ rfl ((same_new hT).trans s4)⟩
end
end HS

set_option maxHeartbeats 4000000
namespace HS
open PySem PySem.Spec L2
theorem vf_no (pp pt pw pf : Addr) : (vf pp pt pw pf).lookup ("people" : Str) = none ∧ (vf pp pt pw pf).lookup ("ties" : Str) = none ∧ (vf pp pt pw pf).lookup ("news" : Str) = none := by
  unfold vf
  refine ⟨?_, ?_, ?_⟩
  all_goals
    rw [lk_ne (by decide +kernel), lk_ne (by decide +kernel), lk_ne (by decide +kernel), lk_ne (by decide +kernel)]
    rfl
/-- the data, in new lists -/
def Due (K : PySem.W.Frag) (G : Hp) (du : Addr) (ns : List Str) (es : Ties) (ws : List Int) : Prop := ∃ (d0 d1 d2 : Addr) (ts : List V), G du = some (.lst [.ref d0, .ref d1, .ref d2]) ∧ G d0 = some (.lst (ns.map V.str)) ∧ G d1 = some (.lst ts) ∧ TupsAt K G ts es ∧ G d2 = some (.lst (ws.map V.int))
theorem Due.same {K : PySem.W.Frag} {G G' : Hp} {f : Addr} {ns : List Str} {es : Ties} {ws : List Int} (s : Same G G') (h : Due K G f ns es ws) : Due K G' f ns es ws := let ⟨a, b, c, ts, h1, h2, h3, h4, h5⟩ := h; ⟨a, b, c, ts, s _ _ h1, s _ _ h2, s _ _ h3, h4.same s, s _ _ h5⟩
def R2m (K : PySem.W.Frag) (H : Hp) (x y : V) : Prop := RS K R0 H x y ∨ RS K (RS K R0) H x y
theorem R2m.mono {K : PySem.W.Frag} : MonoR (R2m K) := fun H H' x y s h => h.imp (RS.mono R0.mono H H' x y s) (RS.mono (RS.mono R0.mono) H H' x y s)
theorem rs_atoms {K : PySem.W.Frag} {H : Hp} {a b : Addr} {xs : List V} (h : (SqL K H a xs ∧ SqL K H b xs) ∨ (SqT K H a xs ∧ SqT K H b xs)) (hl : xs.length ≤ 1000) (hx : ∀ x ∈ xs, (∃ z, x = .str z) ∨ ∃ i, x = .int i) : RS K R0 H (.ref a) (.ref b) :=
  ⟨a, b, xs, xs, rfl, rfl, h, rfl, hl, fun i u v h1 h2 => by rw [h1] at h2; cases h2; exact ⟨rfl, hx u (List.mem_of_getElem? h1)⟩⟩
theorem rs_due {K : PySem.W.Frag} {H : Hp} {u v : Addr} {ns : List Str} {es : Ties} {ws : List Int} (h : Due K H u ns es ws) (h' : Due K H v ns es ws) (h1 : ns.length ≤ 1000) (h2 : es.length ≤ 1000) (h3 : ws.length ≤ 1000) : RS K (R2m K) H (.ref u) (.ref v) := by
  obtain ⟨a0, a1, a2, ts, x1, x2, x3, x4, x5⟩ := h
  obtain ⟨b0, b1, b2, rs, y1, y2, y3, y4, y5⟩ := h'
  refine ⟨u, v, _, _, rfl, rfl, .inl ⟨SqL.of x1, SqL.of y1⟩, rfl, by show 3 ≤ 1000; decide, fun i p q e1 e2 => ?_⟩
  match i, e1, e2 with
  | 0, e1, e2 =>
    cases e1; cases e2
    refine .inl (rs_atoms (.inl ⟨SqL.of x2, SqL.of y2⟩) (by rw [List.length_map]; exact h1) fun x hx => ?_)
    obtain ⟨z, _, rfl⟩ := List.mem_map.mp hx
    exact .inl ⟨z, rfl⟩
  | 1, e1, e2 =>
    cases e1; cases e2
    refine .inr ⟨a1, b1, ts, rs, rfl, rfl, .inl ⟨SqL.of x3, SqL.of y3⟩, by rw [x4.1, y4.1], by rw [x4.1]; exact h2, fun j p q e1 e2 => ?_⟩
    have hj : j < es.length := by rw [← x4.1]; exact (List.getElem?_eq_some_iff.mp e1).1
    obtain ⟨p1, rfl, hp⟩ := x4.2 j p es[j] e1 (by simp [hj])
    obtain ⟨q1, rfl, hq⟩ := y4.2 j q es[j] e2 (by simp [hj])
    refine rs_atoms (.inr ⟨hp, hq⟩) (by show 2 ≤ 1000; decide) fun x hx => ?_
    simp at hx
    rcases hx with rfl | rfl <;> exact .inl ⟨_, rfl⟩
  | 2, e1, e2 =>
    cases e1; cases e2
    refine .inl (rs_atoms (.inl ⟨SqL.of x5, SqL.of y5⟩) (by rw [List.length_map]; exact h3) fun x hx => ?_)
    obtain ⟨z, _, rfl⟩ := List.mem_map.mp hx
    exact .inr ⟨z, rfl⟩
  | k + 3, e1, e2 => simp at e1
theorem filt3 {c0 c1 c2 : Bool} {h0 h1 h2 : Addr} {x : V} (h : x ∈ ((List.range 3).filter (fun i => [c0, c1, c2].getD i false)).map (fun i => ([.ref h0, .ref h1, .ref h2] : List V).getD i .non)) :
    ∃ z, x = .ref z ∧ ((z = h0 ∧ c0 = true) ∨ (z = h1 ∧ c1 = true) ∨ (z = h2 ∧ c2 = true)) := by
  obtain ⟨i, hi, rfl⟩ := List.mem_map.mp h
  obtain ⟨h1, h2⟩ := List.mem_filter.mp hi
  have h3 := List.mem_range.mp h1
  match i, h2 with
  | 0, h2 => exact ⟨h0, rfl, .inl ⟨rfl, h2⟩⟩
  | 1, h2 => exact ⟨_, rfl, .inr (.inl ⟨rfl, h2⟩)⟩
  | 2, h2 => exact ⟨_, rfl, .inr (.inr ⟨rfl, h2⟩)⟩
  | k + 3, _ => omega
def kd (c : Bool) (xs : List V) : HO := if c then .lst xs else .tup xs
theorem kd_of {G : Hp} {z : Addr} {xs : List V} (h : G z = some (.lst xs) ∨ G z = some (.tup xs)) : ∃ c, G z = some (kd c xs) := h.elim (fun h => ⟨true, h⟩) fun h => ⟨false, h⟩
theorem kd_ty {K : PySem.W.Frag} {G : Hp} {z : Addr} {xs : List V} {c : Bool} (h : G z = some (kd c xs)) : TyK K G (.ref z) (if c then .lst else .tup) := by
  cases c
  · exact TyK.seqT (SqT.of h)
  · exact TyK.seqL (SqL.of h)
section
variable {K : PySem.W.Frag} {D : Ads}
def Lb (Y : Hp) (p : Addr) (m : Nat) : Prop := ∃ xs, Y p = some (.lst xs) ∧ xs.length ≤ m
theorem Lb.app {X : Hp} {z y : Addr} {xs : List V} {v : V} {m : Nat} (ez : X z = some (.lst xs)) (lz : xs.length ≤ m) (h : Lb X y m) : Lb (upd X z (.lst (xs ++ [v]))) y (m + 1) := by
  by_cases e : y = z
  · subst e
    exact ⟨_, upd_same, by simp; omega⟩
  · obtain ⟨ys, h1, h2⟩ := h
    exact ⟨ys, by rw [upd_ne e]; exact h1, by omega⟩
theorem Lb.up {X : Hp} {y : Addr} {m k : Nat} (h : Lb X y m) (l : m ≤ k) : Lb X y k := let ⟨xs, e, x⟩ := h; ⟨xs, e, by omega⟩
/-- [made.people(), made.ties(), made.news()] -/
theorem te_three {σ : L2.St} {Y : Hp} {Q : VK} {i : Nat} {x : Addr} {ns : List Str} {es : Ties} {ws : List Int} (hσ : σ[i]? = some (some (.ref x))) (hv : Vil K D.C Y x ns es ws) (hn : ns.length ≤ 100) (he : es.length ≤ 100) (hw : ws.length ≤ 100)
    (q : ∀ Y' L p1 p2 p3, Same Y Y' → Y p1 = none → Y p2 = none → Y p3 = none → Y L = none → Y' L = some (.lst [.ref p1, .ref p2, .ref p3]) → Lb Y' p1 100 → Lb Y' p2 100 → Lb Y' p3 100 → Due K Y' L ns es ws → Q (.ref L) Y') :
    tLst (tCons (tMeth D.C "people" (sp_vget K D.C fP) [] E0 (tVar i) tNil) (tCons (tMeth D.C "ties" (sp_vget K D.C (fT K)) [] E0 (tVar i) tNil) (tCons (tMeth D.C "news" (sp_vget K D.C fW) [] E0 (tVar i) tNil) tNil))) σ Y Q := by
  have at_ : ∀ {Y' : Hp}, Same Y Y' → ∃ dx pp pt pw pf, Y' x = some (.ins D.C dx (vf pp pt pw pf)) := fun s => by
    obtain ⟨dx, pp, pt, pw, pf, ts, la, e1, _⟩ := (hv.same s).ex
    exact ⟨dx, pp, pt, pw, pf, e1⟩
  obtain ⟨dx, pp, pt, pw, pf, e1⟩ := at_ (Same.refl _)
  refine ⟨_, hσ, x, dx, _, rfl, e1, (vf_no _ _ _ _).1, x, ns, es, ws, rfl, hv, fun p1 x1 Y1 hp1 s1 ep1 f1 => ?_⟩
  obtain ⟨dx1, pp1, pt1, pw1, pf1, e2⟩ := at_ s1
  refine ⟨_, hσ, x, dx1, _, rfl, e2, (vf_no _ _ _ _).2.1, x, ns, es, ws, rfl, hv.same s1, fun p2 x2 Y2 hp2 s2 ep2 f2 => ?_⟩
  have s12 := s1.trans s2
  obtain ⟨dx2, pp2, pt2, pw2, pf2, e3⟩ := at_ s12
  refine ⟨_, hσ, x, dx2, _, rfl, e3, (vf_no _ _ _ _).2.2, x, ns, es, ws, rfl, hv.same s12, fun p3 x3 Y3 hp3 s3 ep3 f3 => ⟨by show 3 ≤ sizeLine; decide, fun L hL => ?_⟩⟩
  have s13 := s12.trans s3
  have s4 : Same Y3 (upd Y3 L (.lst [.ref p1, .ref p2, .ref p3])) := same_new hL
  change x1 = _ at f1
  change TupsAt K Y2 x2 es at f2
  change x3 = _ at f3
  subst f1 f3
  have g1 := s4 _ _ (s3 _ _ (s2 _ _ ep1))
  have g2 := s4 _ _ (s3 _ _ ep2)
  have g3 := s4 _ _ ep3
  exact q _ L p1 p2 p3 (s13.trans s4) hp1 (s1.free hp2) (s12.free hp3) (s13.free hL) upd_same ⟨_, g1, by rw [List.length_map]; exact hn⟩ ⟨_, g2, by rw [f2.1]; exact he⟩ ⟨_, g3, by rw [List.length_map]; exact hw⟩
    ⟨p1, p2, p3, x2, upd_same, g1, g2, f2.same (s3.trans s4), g3⟩
def tThree (K : PySem.W.Frag) (D : Ads) (i : Nat) : TE := fun σ Y Q => ∃ (x : Addr) (ns : List Str) (es : Ties) (ws : List Int), σ[i]? = some (some (.ref x)) ∧ Vil K D.C Y x ns es ws ∧ ns.length ≤ 100 ∧ es.length ≤ 100 ∧ ws.length ≤ 100 ∧
  ∀ Y' L p1 p2 p3, Same Y Y' → Y p1 = none → Y p2 = none → Y p3 = none → Y L = none → Y' L = some (.lst [.ref p1, .ref p2, .ref p3]) → Lb Y' p1 100 → Lb Y' p2 100 → Lb Y' p3 100 → Due K Y' L ns es ws → Q (.ref L) Y'
theorem pe_imp {X : Cx} {e : Expr} {t t' : TE} (h : PE X e t) (m : ∀ σ H Q, t' σ H Q → t σ H Q) : PE X e t' := ⟨fun pins s σ H Q I q => h.run pins s σ H Q I (m _ _ _ q)⟩
theorem three_imp {i : Nat} (σ : L2.St) (H : Hp) (Q : VK) (h : tThree K D i σ H Q) : tLst (tCons (tMeth D.C "people" (sp_vget K D.C fP) [] E0 (tVar i) tNil) (tCons (tMeth D.C "ties" (sp_vget K D.C (fT K)) [] E0 (tVar i) tNil) (tCons (tMeth D.C "news" (sp_vget K D.C fW) [] E0 (tVar i) tNil) tNil))) σ H Q := by
  obtain ⟨x, ns, es, ws, hσ, hv, a, b, c, q⟩ := h
  exact te_three hσ hv a b c q
end
end HS

set_option maxHeartbeats 4000000
namespace HS
open PySem PySem.Spec L2
/-- a heap without the places of S -/
noncomputable def cutS (S : Addr → Prop) (H : Hp) : Hp := fun b => @ite _ (S b) (Classical.propDecidable _) none (H b)
theorem cutS_of {S : Addr → Prop} {H : Hp} {b : Addr} {o : HO} (n : ¬ S b) (e : H b = some o) : cutS S H b = some o := by
  unfold cutS; rw [if_neg n]; exact e
theorem cutS_in {S : Addr → Prop} {H : Hp} {b : Addr} {o : HO} (e : cutS S H b = some o) : ¬ S b ∧ H b = some o := by
  unfold cutS at e
  by_cases h : S b
  · rw [if_pos h] at e; cases e
  · rw [if_neg h] at e; exact ⟨h, e⟩
theorem cutS_le {S : Addr → Prop} {H : Hp} : Same (cutS S H) H := fun b o e => (cutS_in e).2
theorem cutS_upd {S : Addr → Prop} {H : Hp} {b : Addr} {o : HO} (h : S b) : cutS S (upd H b o) = cutS S H := by
  funext c
  unfold cutS
  by_cases hc : S c
  · rw [if_pos hc, if_pos hc]
  · have : c ≠ b := fun z => hc (by rw [z]; exact h)
    rw [if_neg hc, if_neg hc, upd_ne this]
theorem small1000' {n : Nat} (h : n ≤ 3) : 3 + n ≤ sizeLine := Nat.le_trans (show 3 + n ≤ 6 by omega) (by decide)
theorem fr_acc {H X H3 : Hp} {sp L : Addr} {n : Nat} {o u : HO} (hX : Spr X sp n) (f : Frm sp H X) (eL : X L = some u) : Same (fr X H3) (del (fr H (upd H3 L o)) L) := fun b v e => by
  obtain ⟨e1, e2⟩ := fr_in e
  have bL : b ≠ L := fun z => by rw [z, eL] at e1; cases e1
  rw [del_ne bL]
  exact fr_get (frm_free f (hX.ne e1) e1) (by rw [upd_ne bL]; exact e2)
theorem fr_acc2 {H X H3 : Hp} {sp L : Addr} {n : Nat} {o : HO} (hs : Spr H sp n) (f3 : Frm sp X H3) : Same (del (fr H X) L) (del (fr H (upd H3 L o)) L) := fun b v e => by
  have bL : b ≠ L := fun z => by rw [z, del_same] at e; cases e
  rw [del_ne bL] at e ⊢
  obtain ⟨e1, e2⟩ := fr_in e
  refine fr_get e1 ?_
  rw [upd_ne bL]
  refine f3.at_ (fun z => ?_) e2
  obtain ⟨_, e, _⟩ := hs
  rw [z, e] at e1; cases e1
section
variable {X : Cx} {K : PySem.W.Frag}
theorem call_list_ofK (hK : X.K = K) : CallR X (.type "list") (fun xs H Q => ∃ p ys, xs = [.ref p] ∧ (SqL K H p ys ∨ SqT K H p ys) ∧ ∀ l, H l = none → Q (.ref l) (upd H l (.lst ys))) := by
  subst hK
  exact call_list_of
theorem call_isKK (hK : X.K = K) : CallR X (.builtin "isinstance") (rIsK K) := by
  subst hK
  exact call_isK
end
theorem fnOr {P : Program} {w : World} {K : PySem.W.Frag} {mg : Str → Option Value} {base : Heap} {CX : CXT} {k : Nat} {f : Addr} {fd : FuncData} {ps : List Str} {sp1 sp2 : Sp} (F1 : FnOk P w K mg base CX k f fd ps sp1) (F2 : FnOk P w K mg base CX k f fd ps sp2) :
    FnOk P w K mg base CX k f fd ps (fun vs H Q E => sp1 vs H Q E ∨ sp2 vs H Q E) :=
  ⟨fun vs H Q E h => h.elim (F1.len vs H Q E) (F2.len vs H Q E), fun A outer s H args us vs Q E hr he hb hv hs => hs.elim (F1.run A outer s H args us vs Q E hr he hb hv) (F2.run A outer s H args us vs Q E hr he hb hv)⟩
def HP (ns : List Str) (es : Ties) (ws : List Int) (j : Nat) (G : Hp) (v : V) : Prop :=
  (j = 0 → ∃ p, v = .ref p ∧ (G p = some (.lst (ns.map V.str)) ∨ G p = some (.tup (ns.map V.str)))) ∧ (j = 1 → ∃ p ts, v = .ref p ∧ (G p = some (.lst ts) ∨ G p = some (.tup ts)) ∧ PairsN G ts es) ∧
  (j = 2 → ∃ p, v = .ref p ∧ (G p = some (.lst (ws.map V.int)) ∨ G p = some (.tup (ws.map V.int))))
theorem HP.same {ns : List Str} {es : Ties} {ws : List Int} {j : Nat} {G G' : Hp} {v : V} (s : Same G G') (h : HP ns es ws j G v) : HP ns es ws j G' v :=
  ⟨fun e => let ⟨p, x, y⟩ := h.1 e; ⟨p, x, y.imp (s _ _) (s _ _)⟩, fun e => let ⟨p, t, x, y, z⟩ := h.2.1 e; ⟨p, t, x, y.imp (s _ _) (s _ _), z.same s⟩, fun e => let ⟨p, x, y⟩ := h.2.2 e; ⟨p, x, y.imp (s _ _) (s _ _)⟩⟩
section
variable {P : Program} {w : World} {K : PySem.W.Frag} {mg : Str → Option Value} {base : Heap} {D : Ads}
theorem ok_same2 (T : Txt K mg D) : FnOk P w K mg base CX0 3 D.a_law_same D.d_law_same ["found", "due"] (sp_same (R2m K)) := by
  have G0 : FnOk P w K mg base CX0 1 D.a_law_same D.d_law_same ["found", "due"] (sp_same R0) := ok_same0 T
  have G1 : FnOk P w K mg base CX0 2 D.a_law_same D.d_law_same ["found", "due"] (sp_same (RS K R0)) := ok_sameS R0.mono T G0
  have G2 : FnOk P w K mg base CX0 3 D.a_law_same D.d_law_same ["found", "due"] (sp_same (RS K (RS K R0))) := ok_sameS (RS.mono R0.mono) T G1
  exact (fnOr (G1.mono (by decide)) G2).imp fun vs H Q E h => by
    obtain ⟨x, y, e, r, q⟩ := h
    exact r.imp (fun r => ⟨x, y, e, r, q⟩) fun r => ⟨x, y, e, r, q⟩
theorem ok_same3 (T : Txt K mg D) : FnOk P w K mg base CX0 4 D.a_law_same D.d_law_same ["found", "due"] (sp_same (RS K (R2m K))) := ok_sameS R2m.mono T (ok_same2 T)
def sp_told (K : PySem.W.Frag) : Sp := fun vs H Q _ => ∃ (sp f : Addr) (n : Nat) (ns : List Str) (es : Ties) (ws : List Int), vs = [.ref sp, .ref f] ∧ Spr H sp n ∧ n ≤ 600000000 ∧ Form K (del H sp) f ns es ws ∧ Dat ns es ws ∧
  ∀ H', Spr H' sp (n + 400) → Frm sp H H' → Q (.bl true) H'
theorem sc_told : FnScope ["spring", "form", "handed", "made", "due", "thing", "part"] ["spring", "form"] (defScope s_law_told_right) := ⟨rfl, rfl, rfl, by decide +kernel, rfl, by decide +kernel, by decide +kernel⟩
theorem ok_told (T : Txt K mg D) : FnOk P w K mg base CX0 7 D.a_law_told_right D.d_law_told_right ["spring", "form"] (sp_told K) := by
  have G1 : FnOk P w K mg base CX0 4 D.a_law_loose D.d_law_loose ["spring", "thing"] _ := fnOr ((ok_lo1 T).mono (by decide)) (ok_lo2 T)
  have G5 : FnOk P w K mg base (L2.CX P w) 5 D.a_v_init D.d_v_init ["self", "people", "ties", "news"] (sp_vinit K D) := ok_vinit T
  have G6 : FnOk P w K mg base CX0 4 D.a_law_same D.d_law_same ["found", "due"] (sp_same (RS K (R2m K))) := ok_same3 T
  have V1 : FnOk P w K mg base CX0 1 D.a_v_people D.d_v_people ["self"] (sp_vget K D.C fP) := ok_vpeople T
  have V2 : FnOk P w K mg base CX0 1 D.a_v_ties D.d_v_ties ["self"] (sp_vget K D.C (fT K)) := ok_vties T
  have V3 : FnOk P w K mg base CX0 1 D.a_v_news D.d_v_news ["self"] (sp_vget K D.C fW) := ok_vnews T
  have nd := sc_told.nd
  refine T.F_law_told_right.ok sc_told (fun vs H Q E h => ?_) (fun cdv A outer s H vs Q E hr h => ?_)
  · obtain ⟨sp, f, n, ns, es, ws, rfl, _⟩ := h
    rfl
  · obtain ⟨sp, f, n, ns, es, ws, rfl, hs, hn, ⟨a, b, c, ts, ef, ea, eb, tt, ec⟩, dat, q⟩ := h
    have hr4 : Room 4 _ := hr.mono (by decide)
    have hr1 : Room 1 _ := hr.mono (by decide)
    refine' ⟨_, pss_cons (ps_setLc (i := 2) (own := [("part", 6)]) (g := gName 6) (tt := tYes) rfl nd rfl rfl (sw_true rfl rfl rfl (by decide +kernel)) (pi_tup (pv 1)) (blkOk_by (N := ["spring", "form", "handed", "made", "due", "thing", "part"]) (sc := defScope s_law_told_right) (by decide +kernel))
          (fun _ _ _ _ _ => pg_name (i := 6) nd rfl (Or.inl rfl)) (fun _ _ _ _ _ => pts_nil) ?inner)
      (pss_cons (ps_set (i := 3) nd rfl (Or.inl rfl) (pe_make (C := D.C) T.mkr G5 hr rfl T.gC T.b_v_init .nil pass9 (pa_cons (pe_ix ix_list (pv 2) pe_int (fun _ _ => rfl)) (pa_cons (pe_ix ix_list (pv 2) pe_int (fun _ _ => rfl)) (pa_cons (pe_ix ix_list (pv 2) pe_int (fun _ _ => rfl)) pa_nil)))))
      (pss_cons (ps_set (i := 4) nd rfl (Or.inl rfl) (pe_lst (pa_cons (pe_callTy call_list_of (by rfl) T.z_list boot_list' (pa_cons (pe_ix ix_tup (pv 1) pe_int (fun _ _ => rfl)) pa_nil)) (pa_cons (pe_callTy call_list_of (by rfl) T.z_list boot_list' (pa_cons (pe_ix ix_tup (pv 1) pe_int (fun _ _ => rfl)) pa_nil)) (pa_cons (pe_callTy call_list_of (by rfl) T.z_list boot_list' (pa_cons (pe_ix ix_tup (pv 1) pe_int (fun _ _ => rfl)) pa_nil)) pa_nil)))))
      (pss_cons (ps_if (pt_not (pt_val (pe_call G6 hr4 rfl T.g_law_same T.F_law_same.kp T.b_law_same .nil pass0 (pa_cons (pe_imp (pe_lst (pa_cons (pe_meth0 (pv 3) T.cl T.m_v_people V1 hr1 T.b_v_people .nil pass0) (pa_cons (pe_meth0 (pv 3) T.cl T.m_v_ties V2 hr1 T.b_v_ties .nil pass0) (pa_cons (pe_meth0 (pv 3) T.cl T.m_v_news V3 hr1 T.b_v_news .nil pass0) pa_nil)))) three_imp) (pa_cons (pv 4) pa_nil))))) pss_no pss_nil)
      (pss_cons (ps_for PassesOwn.never rfl (pi_list (pe_op op_cat (pe_imp (pe_lst (pa_cons (pe_meth0 (pv 3) T.cl T.m_v_people V1 hr1 T.b_v_people .nil pass0) (pa_cons (pe_meth0 (pv 3) T.cl T.m_v_ties V2 hr1 T.b_v_ties .nil pass0) (pa_cons (pe_meth0 (pv 3) T.cl T.m_v_news V3 hr1 T.b_v_news .nil pass0) pa_nil)))) three_imp)
          (pe_lc (own := [("part", 6)]) (g := gName 6) rfl nd (pi_list (pv 2)) (blkOk_by (N := ["spring", "form", "handed", "made", "due", "thing", "part"]) (sc := defScope s_law_told_right) (by decide +kernel))
            (fun _ _ _ _ _ => pg_name (i := 6) nd rfl (Or.inl rfl)) (fun _ _ _ _ _ => pts_one (pt_val (pe_callB (call_isKK (K := K) rfl) (by rfl) T.z_isinstance boot_isinstance (pa_cons (pv 6) (pa_cons (pe_bltn (by rfl) T.z_list boot_list' (v := .ty "list") rfl) pa_nil))))) (fun _ _ _ _ _ => pv 6)))) (pg_name (i := 5) nd rfl (Or.inl rfl))
          (pss_one (ps_expr (pe_bm PySem.F.plainAttrs_list PySem.F.slot_list_append PySem.F.type_list_append mt_append (pv 5) (pa_cons pe_str pa_nil)))))
      (pss_cons (ps_for PassesOwn.never rfl (PI.or (pi_list (pe_ix ix_list (pv 2) pe_int (fun _ _ => rfl))) (pi_tup (pe_ix ix_list (pv 2) pe_int (fun _ _ => rfl)))) (pg_name (i := 6) nd rfl (Or.inl rfl))
          (pss_one (ps_if (pt_val (pe_callB call_isK (by rfl) T.z_isinstance boot_isinstance (pa_cons (pv 6) (pa_cons (pe_bltn (by rfl) T.z_list boot_list' (v := .ty "list") rfl) pa_nil)))) (pss_one (ps_expr (pe_bm PySem.F.plainAttrs_list PySem.F.slot_list_append PySem.F.type_list_append mt_append (pv 6) (pa_cons pe_str pa_nil)))) pss_nil)))
      (pss_one (ps_ret (pe_call G6 hr4 rfl T.g_law_same T.F_law_same.kp T.b_law_same .nil pass0 (pa_cons (pe_imp (pe_lst (pa_cons (pe_meth0 (pv 3) T.cl T.m_v_people V1 hr1 T.b_v_people .nil pass0) (pa_cons (pe_meth0 (pv 3) T.cl T.m_v_ties V2 hr1 T.b_v_ties .nil pass0) (pa_cons (pe_meth0 (pv 3) T.cl T.m_v_news V3 hr1 T.b_v_news .nil pass0) pa_nil)))) three_imp) (pa_cons (pv 4) pa_nil)))))))))), ?_⟩
    case inner =>
      exact fun _ _ _ _ _ => pe_call G1 hr4 rfl T.g_law_loose T.F_law_loose.kp T.b_law_loose .nil pass0 (pa_cons (pv 0) (pa_cons (pe_callTy (call_list_ofK (K := K) rfl) (by rfl) T.z_list boot_list' (pa_cons (pv 6) pa_nil)) pa_nil))
    have hsT : ∀ {X : Hp}, Frm sp H X → SqT K X f [.ref a, .ref b, .ref c] := fun fx => SqT.of (del_le _ _ (fx _ _ ef))
    have hl := dat.len
    have ht := dat.tree.len
    have hwl := dat.wl
    refine st_set_of ?_
    refine ⟨_, rfl, f, rfl, ⟨_, hsT Frm.refl⟩, fun Dd hD => ?_⟩
    have Dsp := hs.ne hD
    refine lc_it (walk_tup (xs := [.ref a, .ref b, .ref c])) (fun i X => i ≤ 3 ∧ ∃ n' acc, n' ≤ n + 110 * i ∧ Spr X sp n' ∧ Frm sp H X ∧ X Dd = some (.lst acc) ∧ acc.length = i ∧ ∀ (j : Nat) v, acc[j]? = some v → HP ns es ws j (del (fr H X) Dd) v)
      ⟨Nat.zero_le _, n, [], by omega, hs.upd Dsp, frm_same (same_new hD), upd_same, rfl, fun j v h => by simp at h⟩ (fun i X _ p => by
        obtain ⟨_, n', acc, _, _, fx, _⟩ := p
        exact hsT fx) (fun i x X0 X hi p y => ?_) fun H3 p => ?_
    · obtain ⟨rfl, hx⟩ := y
      obtain ⟨_, n', acc, hn', sX, fX, eX, la, hacc⟩ := p
      have hi3 : i < 3 := hi
      have src : ∃ (r : Addr) (xs : List V), x = .ref r ∧ del H sp r = some (.lst xs) ∧ ((i = 0 ∧ xs = ns.map V.str) ∨ (i = 1 ∧ xs = ts) ∨ (i = 2 ∧ xs = ws.map V.int)) := by
        match i, hx with
        | 0, hx => cases hx; exact ⟨a, _, rfl, ea, .inl ⟨rfl, rfl⟩⟩
        | 1, hx => cases hx; exact ⟨b, _, rfl, eb, .inr (.inl ⟨rfl, rfl⟩)⟩
        | 2, hx => cases hx; exact ⟨c, _, rfl, ec, .inr (.inr ⟨rfl, rfl⟩)⟩
        | k + 3, hx => simp at hx
      obtain ⟨r, xs, rfl, er, hxs⟩ := src
      refine ⟨rfl, _, rfl, _, rfl, r, xs, rfl, .inl (SqL.of (del_le _ _ (fX _ _ er))), fun p hp => ?_⟩
      have psp := sX.ne hp
      have sX1 := sX.upd (o := .lst xs) psp
      have f1 : Frm sp X (upd X p (.lst xs)) := frm_same (same_new hp)
      have ep : del (upd X p (.lst xs)) sp p = some (.lst xs) := del_of psp upd_same
      have eX1 : upd X p (.lst xs) Dd = some (.lst acc) := by rw [upd_ne (ne_of_none eX hp)]; exact eX
      have tt1 : TupsAt K (del (upd X p (.lst xs)) sp) ts es := tt.same (fX.trans f1)
      generalize upd X p (.lst xs) = X1 at sX1 f1 ep eX1 tt1 ⊢
      have fin : ∀ v' n2 H3, n2 ≤ n' + 101 → Spr H3 sp n2 → Frm sp X1 H3 → HP ns es ws i (fr X1 H3) v' → ∃ acc, H3 Dd = some (.lst acc) ∧ acc.length < sizeLine ∧ i + 1 ≤ 3 ∧ ∃ n' acc_1, n' ≤ n + 110 * (i + 1) ∧ Spr (upd H3 Dd (.lst (acc ++ [v']))) sp n' ∧
          Frm sp H (upd H3 Dd (.lst (acc ++ [v']))) ∧ upd H3 Dd (.lst (acc ++ [v'])) Dd = some (.lst acc_1) ∧ acc_1.length = i + 1 ∧ ∀ (j : Nat) v, acc_1[j]? = some v → HP ns es ws j (del (fr H (upd H3 Dd (.lst (acc ++ [v'])))) Dd) v := by
        intro v' n2 H3 h2 s3 f3 hb
        have e3 : H3 Dd = some (.lst acc) := f3.at_ Dsp eX1
        refine ⟨acc, e3, small5000 (by omega), hi3, n2, acc ++ [v'], by omega, s3.upd Dsp, ((fX.trans f1).trans f3).upd_new hD, upd_same, by simp [la], fun j v hv => ?_⟩
        by_cases hj : j < acc.length
        · rw [List.getElem?_append_left hj] at hv
          exact (hacc j v hv).same (fr_acc2 hs (f1.trans f3))
        · rw [List.getElem?_append_right (by omega)] at hv
          have h0 : j - acc.length = 0 := by
            have := (List.getElem?_eq_some_iff.mp hv).1
            simpa using this
          have ej : j = i := by omega
          subst ej
          rw [h0] at hv
          cases hv
          exact hb.same (fr_acc sX1 (fX.trans f1) eX1)
      rcases hxs with ⟨rfl, rfl⟩ | ⟨rfl, rfl⟩ | ⟨rfl, rfl⟩
      · refine .inl ⟨sp, .ref p, ns.map V.str, n', rfl, sX1, by omega, bs_strs (.inl (SqL.of ep)), ⟨by rw [List.length_map]; omega, fun _ _ => trivial⟩, fun v' n2 H3 h2 s3 f3 hb => fin v' n2 H3 (by omega) s3 f3 ⟨fun _ => bn_vals hb, fun z => (nomatch z), fun z => (nomatch z)⟩⟩
      · refine .inr ⟨sp, .ref p, es.map prV, n', rfl, sX1, by omega, bs_tups (.inl (SqL.of ep)) tt1, ⟨by rw [List.length_map]; omega, fun d hd => ?_⟩, fun v' n2 H3 h2 s3 f3 hb => fin v' n2 H3 (by omega) s3 f3 ⟨fun z => (nomatch z), fun _ => bn_pairs hb, fun z => (nomatch z)⟩⟩
        obtain ⟨e, _, rfl⟩ := List.mem_map.mp hd
        exact ⟨by show 2 ≤ 100; decide, fun _ _ => trivial⟩
      · refine .inl ⟨sp, .ref p, ws.map V.int, n', rfl, sX1, by omega, bs_ints (.inl (SqL.of ep)), ⟨by rw [List.length_map]; omega, fun _ _ => trivial⟩, fun v' n2 H3 h2 s3 f3 hb => fin v' n2 H3 (by omega) s3 f3 ⟨fun z => (nomatch z), fun z => (nomatch z), fun _ => bn_vals hb⟩⟩
    · obtain ⟨_, n3, acc, hn3, s3, f3, e3, la, hacc⟩ := p
      have la : acc.length = 3 := la
      obtain ⟨v0, v1, v2, rfl⟩ : ∃ v0 v1 v2, acc = [v0, v1, v2] := by
        match acc, la with
        | [x, y, z], _ => exact ⟨x, y, z, rfl⟩
      obtain ⟨h0, rfl, k0⟩ := (hacc 0 _ rfl).1 rfl
      obtain ⟨h1, t1, rfl, k1, kp⟩ := (hacc 1 _ rfl).2.1 rfl
      obtain ⟨h2, rfl, k2⟩ := (hacc 2 _ rfl).2.2 rfl
      clear hacc
      have S3 : Same (del (fr H H3) Dd) H3 := Same.trans del_le fr_le
      have nw : ∀ {z : Addr} {o : HO}, del (fr H H3) Dd z = some o → H z = none ∧ H3 z = some o ∧ z ≠ Dd := fun {z o} e => by
        have zD : z ≠ Dd := fun y => by rw [y, del_same] at e; cases e
        rw [del_ne zD] at e
        exact ⟨(fr_in e).1, (fr_in e).2, zD⟩
      refine ⟨_, rfl, Dd, _, _, .ref h0, rfl, rfl, SqL.of e3, atI_nat (j := 0) rfl, _, rfl, Dd, _, _, .ref h1, rfl, rfl, SqL.of e3, atI_nat (j := 1) rfl, _, rfl, Dd, _, _, .ref h2, rfl, rfl, SqL.of e3, atI_nat (j := 2) rfl, ?_⟩
      refine make_good ((seqN k0).same S3) ((seqN k1).same S3) (kp.pv.same S3) ((seqN k2).same S3) dat.good dat.ne (by omega) dat.tree dat.wl dat.w1 fun x H4 hx s34 hv => ?_
      have f04 : Frm sp H H4 := f3.trans (frm_same s34)
      refine ⟨_, rfl, f, _, _, .ref a, rfl, rfl, hsT f04, atI_nat (j := 0) rfl, a, _, rfl, .inl (SqL.of (del_le _ _ (f04 _ _ ea))), fun d0 hd0 => ?_⟩
      have sa : Same H4 (upd H4 d0 (.lst (ns.map V.str))) := same_new hd0
      have ed0 : upd H4 d0 (.lst (ns.map V.str)) d0 = some (.lst (ns.map V.str)) := upd_same
      generalize upd H4 d0 (.lst (ns.map V.str)) = H5 at sa ed0 ⊢
      have f05 : Frm sp H H5 := f04.trans (frm_same sa)
      refine ⟨_, rfl, f, _, _, .ref b, rfl, rfl, hsT f05, atI_nat (j := 1) rfl, b, _, rfl, .inl (SqL.of (del_le _ _ (f05 _ _ eb))), fun d1 hd1 => ?_⟩
      have sb : Same H5 (upd H5 d1 (.lst ts)) := same_new hd1
      have ed1 : upd H5 d1 (.lst ts) d1 = some (.lst ts) := upd_same
      generalize upd H5 d1 (.lst ts) = H6 at sb ed1 ⊢
      have f06 : Frm sp H H6 := f05.trans (frm_same sb)
      refine ⟨_, rfl, f, _, _, .ref c, rfl, rfl, hsT f06, atI_nat (j := 2) rfl, c, _, rfl, .inl (SqL.of (del_le _ _ (f06 _ _ ec))), fun d2 hd2 => ?_⟩
      have sc : Same H6 (upd H6 d2 (.lst (ws.map V.int))) := same_new hd2
      have ed2 : upd H6 d2 (.lst (ws.map V.int)) d2 = some (.lst (ws.map V.int)) := upd_same
      generalize upd H6 d2 (.lst (ws.map V.int)) = H7 at sc ed2 ⊢
      refine ⟨(by show 3 ≤ sizeLine; decide), fun du hdu => ?_⟩
      have sd : Same H7 (upd H7 du (.lst [.ref d0, .ref d1, .ref d2])) := same_new hdu
      have edu : upd H7 du (.lst [.ref d0, .ref d1, .ref d2]) du = some (.lst [.ref d0, .ref d1, .ref d2]) := upd_same
      generalize upd H7 du (.lst [.ref d0, .ref d1, .ref d2]) = H8 at sd edu ⊢
      have s48 : Same H4 H8 := ((sa.trans sb).trans sc).trans sd
      have due : Due K H8 du ns es ws := ⟨d0, d1, d2, ts, edu, sd _ _ (sc _ _ (sb _ _ ed0)), sd _ _ (sc _ _ ed1), tt.same (Same.trans (f04.trans (frm_same s48)) del_le), sd _ _ ed2⟩
      have hv8 : Vil K D.C H8 x ns es ws := hv.same (Same.trans fr_le s48)
      have le1 : es.length ≤ 1000 := by omega
      have le2 : ws.length ≤ 1000 := by omega
      refine ⟨x, ns, es, ws, rfl, hv8, by omega, by omega, by omega, fun Y L q1 q2 q3 sY _ _ _ _ _ _ _ _ dY => ?_⟩
      refine ⟨_, rfl, _, _, rfl, rs_due dY (due.same sY) (by omega) le1 le2, fun H9 s89 => ⟨_, rfl, iteF ?_⟩⟩
      have s8 := sY.trans s89
      have hv9 := hv8.same s8
      have due9 := due.same s8
      have s39 : Same H3 H9 := (s34.trans s48).trans s8
      refine ⟨x, ns, es, ws, rfl, hv9, by omega, by omega, by omega, fun Y2 L2 p1 p2 p3 sY2 np1 np2 np3 nL2 eL2 b1 b2 b3 dY2 => ?_⟩
      obtain ⟨c0, j0⟩ := kd_of k0
      obtain ⟨c1, j1⟩ := kd_of k1
      obtain ⟨c2, j2⟩ := kd_of k2
      have s32 : Same H3 Y2 := s39.trans sY2
      have eD2 := s32 _ _ e3
      refine ⟨_, rfl, Dd, rfl, ⟨_, SqL.of eD2⟩, fun L3 hL3 => ?_⟩
      refine lc_growC (walk_list (xs := [.ref h0, .ref h1, .ref h2])) (fun i => [c0, c1, c2].getD i false) (fun i => ([.ref h0, .ref h1, .ref h2] : List V).getD i .non) hL3 (by show 3 ≤ 1000000; decide) (fun X sX => SqL.of (sX _ _ eD2)) (fun i v X0 X hi sX yy N0 N1 m0 m1 => ?_) fun X6 s6 e6 => ?_
      · obtain ⟨rfl, hx⟩ := yy
        have G3 : Same (del (fr H H3) Dd) X := (S3.trans s32).trans sX
        match i, hx with
        | 0, hx =>
          cases hx
          refine ⟨rfl, _, rfl, .ref h0, _, _, _, rfl, (kd_ty j0).ext G3, kb_list _, _, rfl, ?_⟩
          cases c0
          · exact iteF (m0 _ rfl (Same.refl _))
          · exact iteT ⟨_, rfl, m1 _ rfl (Same.refl _)⟩
        | 1, hx =>
          cases hx
          refine ⟨rfl, _, rfl, .ref h1, _, _, _, rfl, (kd_ty j1).ext G3, kb_list _, _, rfl, ?_⟩
          cases c1
          · exact iteF (m0 _ rfl (Same.refl _))
          · exact iteT ⟨_, rfl, m1 _ rfl (Same.refl _)⟩
        | 2, hx =>
          cases hx
          refine ⟨rfl, _, rfl, .ref h2, _, _, _, rfl, (kd_ty j2).ext G3, kb_list _, _, rfl, ?_⟩
          cases c2
          · exact iteF (m0 _ rfl (Same.refl _))
          · exact iteT ⟨_, rfl, m1 _ rfl (Same.refl _)⟩
        | k + 3, hx => simp at hx
      · have hfl : (((List.range [V.ref h0, V.ref h1, V.ref h2].length).filter (fun i => [c0, c1, c2].getD i false)).map (fun i => ([.ref h0, .ref h1, .ref h2] : List V).getD i .non)).length ≤ 3 := by
          rw [List.length_map]
          exact Nat.le_trans (List.length_filter_le _ _) (by simp)
        have hfm : ∀ v, v ∈ (((List.range [V.ref h0, V.ref h1, V.ref h2].length).filter (fun i => [c0, c1, c2].getD i false)).map (fun i => ([.ref h0, .ref h1, .ref h2] : List V).getD i .non)) → _ := fun v h => filt3 h
        generalize (((List.range [V.ref h0, V.ref h1, V.ref h2].length).filter (fun i => [c0, c1, c2].getD i false)).map (fun i => ([.ref h0, .ref h1, .ref h2] : List V).getD i .non)) = fl at e6 hfl hfm
        refine ⟨L2, L3, _, _, rfl, rfl, s6 _ _ eL2, e6, small1000' hfl, fun LL hLL => ?_⟩
        have s9X : Same H9 (upd X6 LL (.lst ([.ref p1, .ref p2, .ref p3] ++ fl))) := (sY2.trans s6).trans (same_new hLL)
        have g1 : Lb (upd X6 LL (.lst ([.ref p1, .ref p2, .ref p3] ++ fl))) p1 100 := let ⟨xs, e, l⟩ := b1; ⟨xs, same_new hLL _ _ (s6 _ _ e), l⟩
        have g2 : Lb (upd X6 LL (.lst ([.ref p1, .ref p2, .ref p3] ++ fl))) p2 100 := let ⟨xs, e, l⟩ := b2; ⟨xs, same_new hLL _ _ (s6 _ _ e), l⟩
        have g3 : Lb (upd X6 LL (.lst ([.ref p1, .ref p2, .ref p3] ++ fl))) p3 100 := let ⟨xs, e, l⟩ := b3; ⟨xs, same_new hLL _ _ (s6 _ _ e), l⟩
        have n1 : LL ≠ p1 := fun z => by obtain ⟨xs, e, l⟩ := b1; have := s6 _ _ e; rw [← z, hLL] at this; cases this
        have n2 : LL ≠ p2 := fun z => by obtain ⟨xs, e, l⟩ := b2; have := s6 _ _ e; rw [← z, hLL] at this; cases this
        have n3' : LL ≠ p3 := fun z => by obtain ⟨xs, e, l⟩ := b3; have := s6 _ _ e; rw [← z, hLL] at this; cases this
        have nL3 : H3 LL = none := (s32.trans s6).free hLL
        have eLL : upd X6 LL (.lst ([.ref p1, .ref p2, .ref p3] ++ fl)) LL = some (.lst ([.ref p1, .ref p2, .ref p3] ++ fl)) := upd_same
        generalize upd X6 LL (.lst ([.ref p1, .ref p2, .ref p3] ++ fl)) = X0 at s9X g1 g2 g3 eLL ⊢
        let S : Addr → Prop := fun b => b = p1 ∨ b = p2 ∨ b = p3 ∨ (H b = none ∧ (∃ o, H3 b = some o) ∧ b ≠ Dd)
        have nS : ∀ {b : Addr} {o : HO}, H9 b = some o → (H b ≠ none ∨ H3 b = none ∨ b = Dd) → cutS S X0 b = some o := fun {b o} e h => by
          refine cutS_of ?_ (s9X _ _ e)
          rintro (z | z | z | ⟨y1, ⟨u, y2⟩, y3⟩)
          · rw [z, np1] at e; cases e
          · rw [z, np2] at e; cases e
          · rw [z, np3] at e; cases e
          · rcases h with h | h | h
            · exact h y1
            · rw [h] at y2; cases y2
            · exact y3 h
        have hSp1 : S p1 := .inl rfl
        have hSp2 : S p2 := .inr (.inl rfl)
        have hSp3 : S p3 := .inr (.inr (.inl rfl))
        have hSn : ∀ {z : Addr} {o : HO}, del (fr H H3) Dd z = some o → S z := fun e => .inr (.inr (.inr ⟨(nw e).1, ⟨_, (nw e).2.1⟩, (nw e).2.2⟩))
        have s49 : Same H4 H9 := s48.trans s8
        have F1 : Vil K D.C (cutS S X0) x ns es ws := hv.same fun b o e => nS (s49 _ _ (fr_in e).2) (.inr (.inl (fr_in e).1))
        have f09 : Frm sp H H9 := f04.trans (frm_same s49)
        have F4 : Same (del H sp) (cutS S X0) := fun b o e => by
          have bsp : b ≠ sp := fun z => by rw [z, del_same] at e; cases e
          rw [del_ne bsp] at e
          exact nS (f09.at_ bsp e) (.inl fun z => by rw [z] at e; cases e)
        have F4' : Same (del H sp) (del (cutS S X0) sp) := fun b o e => del_of (fun z => by rw [z, del_same] at e; cases e) (F4 b o e)
        have F2 : Due K (cutS S X0) du ns es ws := ⟨d0, d1, d2, ts, nS (s8 _ _ edu) (.inr (.inl ((((s34.trans sa).trans sb).trans sc).free hdu))), nS (s8 _ _ (sd _ _ (sc _ _ (sb _ _ ed0)))) (.inr (.inl (s34.free hd0))),
          nS (s8 _ _ (sd _ _ (sc _ _ ed1))) (.inr (.inl ((s34.trans sa).free hd1))), tt.same F4, nS (s8 _ _ (sd _ _ ed2)) (.inr (.inl (((s34.trans sa).trans sb).free hd2)))⟩
        have F3 : Spr (cutS S X0) sp n3 := by
          obtain ⟨Ls, es', hLs⟩ := s3
          refine ⟨Ls, nS (s39 _ _ es') (.inl fun z => ?_), hLs⟩
          obtain ⟨_, e, _⟩ := hs
          rw [z] at e; cases e
        have F5 : cutS S X0 Dd = some (.lst [.ref h0, .ref h1, .ref h2]) := nS (s39 _ _ e3) (.inr (.inr rfl))
        have F6 : cutS S X0 LL = some (.lst ([.ref p1, .ref p2, .ref p3] ++ fl)) := cutS_of (by
          rintro (z | z | z | ⟨y1, ⟨u, y2⟩, y3⟩)
          · exact n1 z
          · exact n2 z
          · exact n3' z
          · rw [nL3] at y2; cases y2) eLL
        have G3 : Same (del (fr H H3) Dd) X0 := (S3.trans s39).trans s9X
        have itm : ∀ v, v ∈ ([.ref p1, .ref p2, .ref p3] ++ fl : List V) → ∃ z, v = .ref z ∧ S z ∧ Lb X0 z 100 := fun v hv => by
          rcases List.mem_append.mp hv with hv | hv
          · simp at hv
            rcases hv with rfl | rfl | rfl
            · exact ⟨_, rfl, hSp1, g1⟩
            · exact ⟨_, rfl, hSp2, g2⟩
            · exact ⟨_, rfl, hSp3, g3⟩
          · obtain ⟨z, rfl, h⟩ := hfm v hv
            refine ⟨z, rfl, ?_⟩
            rcases h with ⟨rfl, rfl⟩ | ⟨rfl, rfl⟩ | ⟨rfl, rfl⟩
            · exact ⟨hSn j0, _, G3 _ _ j0, by rw [List.length_map]; omega⟩
            · exact ⟨hSn j1, _, G3 _ _ j1, by rw [kp.1]; omega⟩
            · exact ⟨hSn j2, _, G3 _ _ j2, by rw [List.length_map]; omega⟩
        have prs : ∀ z, .ref z ∈ t1 → S z ∧ z ≠ h1 ∧ (Lb X0 z 100 ∨ ∃ xs, X0 z = some (.tup xs)) := fun z hz => by
          obtain ⟨j, hj⟩ := List.getElem?_of_mem hz
          have hj2 : j < es.length := by rw [← kp.1]; exact (List.getElem?_eq_some_iff.mp hj).1
          obtain ⟨z', e1, e2⟩ := kp.2 j _ es[j] hj (by simp [hj2])
          cases e1
          refine ⟨e2.elim hSn hSn, fun y => ?_, e2.imp (fun e => ⟨_, G3 _ _ e, by show 2 ≤ 100; decide⟩) fun e => ⟨_, G3 _ _ e⟩⟩
          subst y
          have : t1 = prV es[j] := by
            rcases e2 with e2 | e2 <;> rcases k1 with k | k <;> rw [e2] at k <;> cases k <;> rfl
          rw [this] at hz
          simp [prV] at hz
        refine ⟨LL, rfl, ⟨_, SqL.of eLL⟩, ?_⟩
        refine for_it (walk_list (xs := [.ref p1, .ref p2, .ref p3] ++ fl)) (fun i σ X => i ≤ 6 ∧ cutS S X = cutS S X0 ∧ (∀ v, v ∈ ([.ref p1, .ref p2, .ref p3] ++ fl : List V) → ∃ z, v = .ref z ∧ S z ∧ Lb X z (100 + i)) ∧ (∀ z, .ref z ∈ t1 → Lb X z (100 + i) ∨ ∃ xs, X z = some (.tup xs)) ∧
            (X h1 = some (.tup t1) ∨ ∃ ys, X h1 = some (.lst (t1 ++ ys)) ∧ ys.length ≤ i ∧ ∀ y ∈ ys, y = .str "late") ∧ ∃ v5, σ = [some (.ref sp), some (.ref f), some (.ref Dd), some (.ref x), some (.ref du), v5, none])
          ⟨Nat.zero_le _, rfl, itm, fun z hz => (prs z hz).2.2, k1.symm.imp (G3 _ _) (fun e => ⟨[], by rw [List.append_nil]; exact G3 _ _ e, Nat.le_refl _, by simp⟩), none, rfl⟩ (fun i σ X _ p => by
            have := F6; rw [← p.2.1] at this
            exact SqL.of (cutS_le _ _ this)) ?_ ?_
        · rintro i v σ X' X hi ⟨hi6, hc, hM1, hM3, hM2, v5, rfl⟩ ⟨rfl, hv⟩
          obtain ⟨z, rfl, hSz, xs, ez, lz⟩ := hM1 v (List.mem_of_getElem? hv)
          have hlen : ([.ref p1, .ref p2, .ref p3] ++ fl : List V).length ≤ 6 := by simp; omega
          refine ⟨_, rfl, .inl ⟨rfl, xs, SqL.of ez⟩, z, xs, .str "late", rfl, rfl, ez, small5000 (by omega), ?_⟩
          refine ⟨by omega, (cutS_upd hSz).trans hc, fun v hv => ?_, fun y hy => ?_, ?_, _, rfl⟩
          · obtain ⟨y, rfl, a1, a2⟩ := hM1 v hv
            exact ⟨y, rfl, a1, a2.app ez lz⟩
          · refine (hM3 y hy).imp (fun h => h.app ez lz) fun ⟨ys, e⟩ => ⟨ys, ?_⟩
            rw [upd_ne (fun h => by rw [h, ez] at e; cases e)]
            exact e
          · rcases hM2 with e | ⟨ys, e, l, hy⟩
            · refine .inl ?_
              rw [upd_ne (fun h => by rw [h, ez] at e; cases e)]
              exact e
            · by_cases h : h1 = z
              · subst h
                rw [ez] at e
                cases e
                refine .inr ⟨ys ++ [.str "late"], by rw [upd_same, List.append_assoc], by simp; omega, fun y h => ?_⟩
                rcases List.mem_append.mp h with h | h
                · exact hy y h
                · simpa using h
              · exact .inr ⟨ys, by rw [upd_ne h]; exact e, by omega, hy⟩
        · rintro σ X ⟨_, hc, hM1, hM3, hM2, v5, rfl⟩
          have eD : X Dd = some (.lst [.ref h0, .ref h1, .ref h2]) := cutS_le _ _ (by rw [hc]; exact F5)
          have con : ∃ (o : HO) (C : List V), X h1 = some o ∧ (o = .tup C ∨ o = .lst C) ∧ C.length ≤ 100 ∧ ∀ v ∈ C, v = .str "late" ∨ ∃ z, v = .ref z ∧ .ref z ∈ t1 := by
            have rf : ∀ v ∈ t1, ∃ z, v = .ref z ∧ V.ref z ∈ t1 := fun v hv => by
              obtain ⟨j, hj⟩ := List.getElem?_of_mem hv
              have hj2 : j < es.length := by rw [← kp.1]; exact (List.getElem?_eq_some_iff.mp hj).1
              obtain ⟨z', e1, e2⟩ := kp.2 j _ es[j] hj (by simp [hj2])
              exact ⟨z', e1, e1 ▸ hv⟩
            rcases hM2 with e | ⟨ys, e, l, hy⟩
            · exact ⟨_, t1, e, .inl rfl, by rw [kp.1]; omega, fun v hv => .inr (rf v hv)⟩
            · have hl6 : ([.ref p1, .ref p2, .ref p3] ++ fl : List V).length ≤ 6 := by simp; omega
              refine ⟨_, _, e, .inr rfl, by rw [List.length_append, kp.1]; omega, fun v hv => ?_⟩
              rcases List.mem_append.mp hv with hv | hv
              · exact .inr (rf v hv)
              · exact .inl (hy v hv)
          obtain ⟨o, C, eh1, ho, hCl, hC⟩ := con
          rcases ho with rfl | rfl
          · refine .inr ⟨_, rfl, Dd, _, _, .ref h1, rfl, rfl, SqL.of eD, atI_nat (j := 1) rfl, h1, rfl, ⟨_, SqT.of eh1⟩, ?_⟩
            refine for_it (walk_tup (xs := C)) (fun i σ X => cutS S X = cutS S X0 ∧ (∀ z, .ref z ∈ t1 → Lb X z (200 + i) ∨ ∃ xs, X z = some (.tup xs)) ∧ X h1 = some (.tup C) ∧ ∃ v5 v6, σ = [some (.ref sp), some (.ref f), some (.ref Dd), some (.ref x), some (.ref du), v5, v6])
              ⟨hc, fun z hz => (hM3 z hz).imp (fun h => h.up (by simp; omega)) id, eh1, v5, none, rfl⟩ (fun i σ X _ p => SqT.of p.2.2.1) ?_ ?_
            · rintro i v σ X' X hi ⟨hc, hM3, eh, v5, v6, rfl⟩ ⟨rfl, hv⟩
              rcases hC v (List.mem_of_getElem? hv) with rfl | ⟨z, rfl, hz⟩
              · refine ⟨_, rfl, .str "late", _, .str, _, rfl, .str _, kb_list _, _, rfl, iteF ?_⟩
                exact ⟨hc, fun z hz => (hM3 z hz).imp (fun h => h.up (by omega)) id, eh, _, _, rfl⟩
              · obtain ⟨hSz, hzh, _⟩ := prs z hz
                rcases hM3 z hz with ⟨xs, ez, lz⟩ | ⟨xs, ez⟩
                · refine ⟨_, rfl, .ref z, _, .lst, _, rfl, TyK.seqL (SqL.of ez), kb_list _, _, rfl, iteT ?_⟩
                  refine ⟨_, rfl, .inl ⟨rfl, xs, SqL.of ez⟩, z, xs, .str "late", rfl, rfl, ez, small5000 (by omega), ?_⟩
                  refine ⟨(cutS_upd hSz).trans hc, fun y hy => ?_, by rw [upd_ne (Ne.symm hzh)]; exact eh, _, _, rfl⟩
                  refine (hM3 y hy).imp (fun h => h.app ez lz) fun ⟨ys, e⟩ => ⟨ys, ?_⟩
                  rw [upd_ne (fun h => by rw [h, ez] at e; cases e)]
                  exact e
                · refine ⟨_, rfl, .ref z, _, .tup, _, rfl, TyK.seqT (SqT.of ez), kb_list _, _, rfl, iteF ?_⟩
                  exact ⟨hc, fun z hz => (hM3 z hz).imp (fun h => h.up (by omega)) id, eh, _, _, rfl⟩
            · rintro σ X ⟨hc, _, _, v5, v6, rfl⟩
              have hle : Same (cutS S X0) X := by rw [← hc]; exact cutS_le
              refine ⟨x, ns, es, ws, rfl, F1.same hle, by omega, by omega, by omega, fun Y4 L4 r1 r2 r3 sY4 _ _ _ _ _ _ _ _ dY4 => ?_⟩
              refine ⟨_, rfl, _, _, rfl, rs_due dY4 (F2.same (hle.trans sY4)) (by omega) le1 le2, fun H10 s10 => ?_⟩
              have s0 : Same (cutS S X0) H10 := (hle.trans sY4).trans s10
              exact q H10 ((F3.same s0).mono (by have : n3 ≤ n + 330 := hn3; omega)) (Same.trans F4' (same_del s0))
          · refine .inl ⟨_, rfl, Dd, _, _, .ref h1, rfl, rfl, SqL.of eD, atI_nat (j := 1) rfl, h1, rfl, ⟨_, SqL.of eh1⟩, ?_⟩
            refine for_it (walk_list (xs := C)) (fun i σ X => cutS S X = cutS S X0 ∧ (∀ z, .ref z ∈ t1 → Lb X z (200 + i) ∨ ∃ xs, X z = some (.tup xs)) ∧ X h1 = some (.lst C) ∧ ∃ v5 v6, σ = [some (.ref sp), some (.ref f), some (.ref Dd), some (.ref x), some (.ref du), v5, v6])
              ⟨hc, fun z hz => (hM3 z hz).imp (fun h => h.up (by simp; omega)) id, eh1, v5, none, rfl⟩ (fun i σ X _ p => SqL.of p.2.2.1) ?_ ?_
            · rintro i v σ X' X hi ⟨hc, hM3, eh, v5, v6, rfl⟩ ⟨rfl, hv⟩
              rcases hC v (List.mem_of_getElem? hv) with rfl | ⟨z, rfl, hz⟩
              · refine ⟨_, rfl, .str "late", _, .str, _, rfl, .str _, kb_list _, _, rfl, iteF ?_⟩
                exact ⟨hc, fun z hz => (hM3 z hz).imp (fun h => h.up (by omega)) id, eh, _, _, rfl⟩
              · obtain ⟨hSz, hzh, _⟩ := prs z hz
                rcases hM3 z hz with ⟨xs, ez, lz⟩ | ⟨xs, ez⟩
                · refine ⟨_, rfl, .ref z, _, .lst, _, rfl, TyK.seqL (SqL.of ez), kb_list _, _, rfl, iteT ?_⟩
                  refine ⟨_, rfl, .inl ⟨rfl, xs, SqL.of ez⟩, z, xs, .str "late", rfl, rfl, ez, small5000 (by omega), ?_⟩
                  refine ⟨(cutS_upd hSz).trans hc, fun y hy => ?_, by rw [upd_ne (Ne.symm hzh)]; exact eh, _, _, rfl⟩
                  refine (hM3 y hy).imp (fun h => h.app ez lz) fun ⟨ys, e⟩ => ⟨ys, ?_⟩
                  rw [upd_ne (fun h => by rw [h, ez] at e; cases e)]
                  exact e
                · refine ⟨_, rfl, .ref z, _, .tup, _, rfl, TyK.seqT (SqT.of ez), kb_list _, _, rfl, iteF ?_⟩
                  exact ⟨hc, fun z hz => (hM3 z hz).imp (fun h => h.up (by omega)) id, eh, _, _, rfl⟩
            · rintro σ X ⟨hc, _, _, v5, v6, rfl⟩
              have hle : Same (cutS S X0) X := by rw [← hc]; exact cutS_le
              refine ⟨x, ns, es, ws, rfl, F1.same hle, by omega, by omega, by omega, fun Y4 L4 r1 r2 r3 sY4 _ _ _ _ _ _ _ _ dY4 => ?_⟩
              refine ⟨_, rfl, _, _, rfl, rs_due dY4 (F2.same (hle.trans sY4)) (by omega) le1 le2, fun H10 s10 => ?_⟩
              have s0 : Same (cutS S X0) H10 := (hle.trans sY4).trans s10
              exact q H10 ((F3.same s0).mono (by have : n3 ≤ n + 330 := hn3; omega)) (Same.trans F4' (same_del s0))
end
end HS

set_option maxHeartbeats 4000000
/-! sorted(pairs of texts): the same pairs in some order -/
namespace HS
open PySem PySem.Spec PyProof.Rows Srt
section
variable {prog : Program} {w : World} {A : Around} {E : Value → Shared → Prop} {s : Shared}
def IsPairS (h : Heap) (v : Value) (x y : Str) : Prop := ∃ a o t u n, v = .ref a ∧ h.get? a = some o ∧ o.cls = .type "tuple" ∧ o.data = .seq #[.str x t, .str y u] n
theorem IsPairS.keeps {h h' : Heap} {v : Value} {x y : Str} (p : IsPairS h v x y) (k : ∀ b o, h.get? b = some o → o.cls = .type "tuple" → h'.get? b = some o) : IsPairS h' v x y := by
  obtain ⟨a, o, t, u, n, e, ho, hc, hd⟩ := p
  exact ⟨a, o, t, u, n, e, k _ _ ho hc, hc, hd⟩
theorem pairS_tot {vs : List Value} (hp : ∀ v ∈ vs, ∃ x y, IsPairS s.heap v x y) : Tot prog w A s (tuples' true) (fun p => p.1 ∈ vs) := by
  intro p q hm hm'
  obtain ⟨x, y, a, o, t, u, n, e, ho, hc, hd⟩ := hp _ hm
  obtain ⟨x', y', a', o', t', u', n', e', ho', hc', hd'⟩ := hp _ hm'
  rw [e, e']
  refine ⟨if x = x' then (if y = y' then false else decide (y.cps.toList < y'.cps.toList)) else decide (x.cps.toList < x'.cps.toList), ?_⟩
  refine PySem.W.kat_lt ho hd ho' hd' ?_
  show PySem.W.KatLex prog w A true (decide (2 < 2)) _ [(.str x t, .str x' t'), (.str y u, .str y' u')] 0 s
  refine PySem.W.kat_cons (SeqAt.EqAt.str_str x t x' t' prog w _ _ ?_)
  refine PySem.W.kat_go (fun e1 => ?_) (fun e1 => ?_)
  · have ex : x = x' := by simpa using e1
    refine PySem.W.kat_yes (PySem.W.kat_cons (SeqAt.EqAt.str_str y u y' u' prog w _ _ ?_))
    refine PySem.W.kat_go (fun e2 => ?_) (fun e2 => ?_)
    · have ey : y = y' := by simpa using e2
      have e3 : (if x = x' then (if y = y' then false else decide (y.cps.toList < y'.cps.toList)) else decide (x.cps.toList < x'.cps.toList)) = false := by rw [if_pos ex, if_pos ey]
      exact PySem.W.kat_yes (PySem.W.kat_nil ⟨rfl, e3.symm⟩)
    · have ey : ¬ y = y' := by simpa using e2
      have e3 : (if x = x' then (if y = y' then false else decide (y.cps.toList < y'.cps.toList)) else decide (x.cps.toList < x'.cps.toList)) = decide (y.cps.toList < y'.cps.toList) := by rw [if_pos ex, if_neg ey]
      refine PySem.W.kat_no (PySem.W.kat_one _ _ (PyProof.Rows.lt_str ?_))
      exact (show s = s ∧ decide (y.cps.toList < y'.cps.toList) = (if x = x' then (if y = y' then false else decide (y.cps.toList < y'.cps.toList)) else decide (x.cps.toList < x'.cps.toList)) from ⟨rfl, e3.symm⟩)
  · have ex : ¬ x = x' := by simpa using e1
    have e3 : (if x = x' then (if y = y' then false else decide (y.cps.toList < y'.cps.toList)) else decide (x.cps.toList < x'.cps.toList)) = decide (x.cps.toList < x'.cps.toList) := by rw [if_neg ex]
    exact PySem.W.kat_no (PyProof.Rows.oneLt_str ⟨rfl, e3.symm⟩)
theorem firstsS {h : Heap} : ∀ {vs : List Value}, (∀ v ∈ vs, ∃ x y, IsPairS h v x y) → ∃ fs : List Value, PySem.W.KatTups h vs fs ∧ fs.length = vs.length ∧ ∀ f ∈ fs, ∃ x t, f = Value.str x t
  | [], _ => ⟨[], PySem.W.KatTups.nil, rfl, fun _ hm => by simp at hm⟩
  | v :: vs, hp => by
    obtain ⟨fs, h1, h2, h3⟩ := firstsS (vs := vs) fun v' hm => hp v' (List.mem_cons_of_mem _ hm)
    obtain ⟨x, y, a, o, t, u, n, e, ho, hc, hd⟩ := hp v (List.mem_cons_self ..)
    subst e
    refine ⟨.str x t :: fs, PySem.W.KatTups.cons ho hc hd rfl h1, by rw [List.length_cons, List.length_cons, h2], fun f hm => ?_⟩
    rcases List.mem_cons.mp hm with rfl | hm
    · exact ⟨x, t, rfl⟩
    · exact h3 f hm
theorem pairsS_sortable {a : Addr} {vs : List Value} (h0 : 0 < vs.length) (hp : ∀ v ∈ vs, ∃ x y, IsPairS s.heap v x y) (ha : ∀ o, s.heap.get? a = some o → o.cls ≠ .type "tuple") : Sortable prog w A s a vs := by
  intro h' keep
  have hp' : ∀ v ∈ vs, ∃ x y, IsPairS h' v x y := fun v hm => by
    obtain ⟨x, y, p⟩ := hp v hm
    exact ⟨x, y, p.keeps fun b o e c => keep b o (fun z => by subst z; exact ha o e c) e⟩
  obtain ⟨fs, h1, h2, h3⟩ := firstsS hp'
  refine ⟨tuples' true, fun Q E hq => ?_, pairS_tot hp'⟩
  refine PySem.W.kat_kind (T := .type "str") h1 (by omega) (fun f hm => ?_) (by rfl) ?_
  · obtain ⟨x, t, rfl⟩ := h3 f hm
    exact PySem.W.Looks.now
  · have e : (Value.type "str" != Value.type "tuple") = true := by first | decide +kernel | rfl | decide
    rw [e]
    exact hq
theorem sorted_pairsS {l : Addr} {vs : List Value} {Q : Value → Shared → Prop} (hl : s.heap.IsList l vs.toArray) (hz : vs.length ≤ sizeLine) (hp : ∀ v ∈ vs, ∃ x y, IsPairS s.heap v x y)
    (h : ∀ (h' : Heap) (d : Addr) (out : List Value), out.Perm vs → (∀ b o, s.heap.get? b = some o → h'.get? b = some o) → s.heap.objs.size ≤ d → (∃ n, h'.get? d = some (seqObj "list" out.toArray n)) → Q (.ref d) { s with heap := h' }) :
    wpAny (model prog w) A (call (.builtin "sorted") [.ref l]) Q E s := by
  refine sorted_any hl hz (fun h2 h₁ a ha k => ?_) fun out ho => ?_
  · refine pairsS_sortable (s := { s with heap := h₁ }) (by omega) (fun v hm => ?_) fun o e => ?_
    · obtain ⟨x, y, p⟩ := hp v hm
      exact ⟨x, y, p.keeps fun b o e _ => (k b o e).2⟩
    · have e' : some o = some (seqObj "list" vs.toArray 0) := e.symm.trans ha
      cases e'
      intro c
      exact absurd (Value.type.inj c) (by decide)
  · exact h _ _ out ho (fun b o e => sortedAll_old e) (Nat.le_succ _) (sortedAll_at s.heap vs out.toArray)
end
end HS
namespace HS
open PySem PySem.Spec L2
def rSortedS (K : PySem.W.Frag) : List V → Hp → VK → Prop := fun vs H Q => ∃ a xs, vs = [V.ref a] ∧ SqL K H a xs ∧ (∀ x ∈ xs, ∃ t i j, x = V.ref t ∧ SqT K H t [.str i, .str j]) ∧
  ∀ ys p, ys.Perm xs → H p = none → Q (.ref p) (upd H p (.lst ys))
theorem cr_sortedS {X : Cx} : CallR X (.builtin "sorted") (rSortedS X.K) := by
  intro pins s σ H vs us Q I r h
  obtain ⟨a, xs, rfl, hs, hx, q⟩ := h
  obtain ⟨its, rv, hl, hz⟩ := I.list hs
  obtain ⟨u, rfl, ru⟩ := vals1 r
  obtain rfl : u = Value.ref a := ru
  obtain ⟨e1, e2⟩ := refs_back rv fun x m => by
    obtain ⟨t, _, _, e, _⟩ := hx x m
    exact ⟨t, e⟩
  refine sorted_pairsS hl.isList (by rw [← rv.length]; exact hz) (fun v hv => ?_) fun h' d out hp k hd hn => ?_
  · obtain ⟨t, rfl⟩ := e2 v hv
    have hm : V.ref t ∈ xs := by rw [e1]; exact List.mem_map.mpr ⟨_, hv, rfl⟩
    obtain ⟨t', i, j, e, ht⟩ := hx _ hm
    cases e
    obtain ⟨its2, r2, ⟨o, ho, hc, n, hd⟩, _⟩ := I.tuple ht
    obtain ⟨u1, u2, rfl, ri, rj⟩ := vals2 r2
    obtain ⟨t1, rfl⟩ := ri
    obtain ⟨t2, rfl⟩ := rj
    exact ⟨i, j, t, o, t1, t2, n, rfl, ho, hc, hd⟩
  · have h3 : ∀ u ∈ out, ∃ a, u = Value.ref a := fun u hu => e2 u (hp.mem_iff.mp hu)
    obtain ⟨n, hn⟩ := hn
    refine ⟨.ref d, upd H d (.lst (out.map backV)), I.laid (t' := s.toks) k hd ⟨?_, out, n, vals_back h3, hn⟩, rfl, q _ d ?_ (I.hok.fresh hd)⟩
    · rw [List.length_map, hp.length_eq, ← rv.length]; exact hz
    · rw [e1]; exact hp.map backV
end HS

set_option maxHeartbeats 4000000
namespace HS
open PySem PySem.Spec L2
section
variable {K : PySem.W.Frag} {mg : Str → Option Value} {D : Ads}
theorem vals_app {vs zs : List V} {us ws : List Value} (r : Vals vs us) (q : Vals zs ws) : Vals (vs ++ zs) (us ++ ws) := by
  induction r with
  | nil => exact q
  | cons h _ ih => exact .cons h ih
theorem vals_rev {vs : List V} {us : List Value} (r : Vals vs us) : Vals vs.reverse us.reverse := by
  induction r with
  | nil => exact .nil
  | cons h _ ih => rw [List.reverse_cons, List.reverse_cons]; exact vals_app ih (.cons h .nil)
theorem kb_init (T : Txt K mg D) : KBn K D.d_v_init ["self", "people", "ties", "news"] 1 ["news", "ties", "people"] (fun us ws => us ++ ws.reverse) (fun vs zs => vs ++ zs.reverse) := by
  obtain ⟨oc, od, kV, doc, pm, an, cdv, ct, osl, e, lk, hcd⟩ := T.F_v_init.ex
  refine ⟨fun s us ws X l1 l2 => ?_, fun r q => vals_app r (vals_rev q)⟩
  rw [e]
  match us, ws, l1, l2 with
  | [u], [a, b, c], _, _ => exact .of_eq rfl
end
end HS

set_option maxHeartbeats 4000000
namespace HS
open PySem PySem.Spec L2
theorem cut_last (xs : List V) (h : xs ≠ []) : cutV xs none (some (-1)) = xs.dropLast := by
  have hp : 0 < xs.length := List.length_pos_iff.mpr h
  unfold cutV
  have e : HT.sIx xs.length xs.length (some (-1)) = xs.length - 1 := by
    show (if (-1 : Int) < 0 then ((-1 : Int) + (xs.length : Int)).toNat else min (-1 : Int).toNat xs.length) = xs.length - 1
    rw [if_pos (by decide)]
    omega
  rw [HT.sIx_none, e, List.dropLast_eq_take]
  simp
theorem cut_lastA (xs : List V) (v : V) : cutV (xs ++ [v]) none (some (-1)) = xs := by rw [cut_last _ (by simp)]; simp
theorem snoc_of {α : Type} {l : List α} (h : l ≠ []) : ∃ r a, l = r ++ [a] := ⟨l.dropLast, l.getLast h, (List.dropLast_concat_getLast h).symm⟩
theorem Dat.okv {ns : List Str} {es : Ties} {ws : List Int} (d : Dat ns es ws) : OkV ns es := ⟨d.ok, fun e he => ⟨d.ok _ (d.tree.mem e he).1, d.ok _ (d.tree.mem e he).2⟩⟩
theorem Dat.ws {ns : List Str} {es : Ties} {ws vs : List Int} (d : Dat ns es ws) (h : vs.length = ws.length) (h1 : ∀ x ∈ vs, 1 ≤ x) : Dat ns es vs := ⟨d.good, d.ok, d.nn, d.ne, d.len, d.tree, by rw [h, d.wl], h1⟩
theorem Dat.rev {ns : List Str} {es : Ties} {ws : List Int} (d : Dat ns es ws) : Dat ns.reverse es ws :=
  ⟨⟨fun z hz => d.good.1 z (List.mem_reverse.mp hz), (List.reverse_perm ns).symm.nodup d.good.2⟩, fun z hz => d.ok z (List.mem_reverse.mp hz), fun z hz => d.nn z (List.mem_reverse.mp hz), by simp [d.ne], by simp [d.len], d.tree.perm (List.reverse_perm ns) (.refl _), by simp [d.wl], d.w1⟩
theorem Dat.tr {ns : List Str} {es fs : Ties} {ws : List Int} (d : Dat ns es ws) (t : Tree ns fs) : Dat ns fs ws := ⟨d.good, d.ok, d.nn, d.ne, d.len, t, d.wl, d.w1⟩
theorem Tree.flip {ns : List Str} {es : Ties} {e : Str × Str} (t : Tree ns (es ++ [e])) : Tree ns (es ++ [(e.2, e.1)]) := by
  refine t.same (fun z => Iff.rfl) rfl (by simp) id (fun i j e f _ _ h => h) (fun i f hf => ?_) (fun g hg => ?_)
  · by_cases hi : i < es.length
    · rw [List.getElem?_append_left hi] at hf
      exact ⟨f, by show (es ++ [e])[i]? = _; rw [List.getElem?_append_left hi]; exact hf, .inl rfl⟩
    · rw [List.getElem?_append_right (by omega)] at hf
      have h0 : i - es.length = 0 := by
        have := (List.getElem?_eq_some_iff.mp hf).1
        simpa using this
      rw [h0] at hf
      cases hf
      exact ⟨e, by show (es ++ [e])[i]? = _; rw [List.getElem?_append_right (by omega), h0]; rfl, .inr rfl⟩
  · rcases List.mem_append.mp hg with hg | hg
    · exact .inl (List.mem_append_left _ hg)
    · simp at hg
      subst hg
      exact .inr (by simp)
theorem Tree.rot {ns : List Str} {es : Ties} (t : Tree ns es) (k : Nat) : Tree ns (es.drop k ++ es.take k) := t.perm (.refl _) (by
  have := List.perm_append_comm (l₁ := es.drop k) (l₂ := es.take k)
  rwa [List.take_append_drop] at this)
theorem star_tree (u : Str) (r : List Str) : (u :: r).Nodup → Tree (u :: r) (r.map fun z => (u, z)) := by
  refine snocInd (p := fun r => (u :: r).Nodup → Tree (u :: r) (r.map fun z => (u, z))) (fun _ => tree_one u) (fun r a ih h => ?_) r
  have h' : (u :: (r ++ [a])) = (u :: r) ++ [a] := rfl
  rw [h'] at h ⊢
  have hn := List.nodup_append.mp h
  rw [List.map_append]
  exact (ih hn.1).grow (by simp) (fun m => hn.2.2 a m a (by simp) rfl) (.inl rfl)
/-- forms wait in a list at O -/
structure Gw (K : PySem.W.Frag) (C : Addr) (H : Hp) (sp O x : Addr) (ns : List Str) (es : Ties) (ws : List Int) (n : Nat) (items : List V) (X : Hp) : Prop where
  w1 : Vil K C (del (del X sp) O) x ns es ws
  w2 : Same (del H sp) (del (del X sp) O)
  w3 : X O = some (.lst items)
  w4 : ∀ v ∈ items, ∃ f' ns' es' ws', v = .ref f' ∧ Form K (del (del X sp) O) f' ns' es' ws' ∧ Dat ns' es' ws'
  w5 : Spr X sp n
  ne : O ≠ sp
  fs : H O = none
theorem Gw.step {K : PySem.W.Frag} {C : Addr} {H : Hp} {sp O x : Addr} {ns : List Str} {es : Ties} {ws : List Int} {n : Nat} {items : List V} {X Y : Hp} (g : Gw K C H sp O x ns es ws n items X) (s : Same X Y) : Gw K C H sp O x ns es ws n items Y := by
  have s2 := same_del (a := O) (same_del (a := sp) s)
  exact ⟨g.w1.same s2, g.w2.trans s2, s _ _ g.w3, fun v hv => let ⟨f', a, b, c, e, h, d⟩ := g.w4 v hv; ⟨f', a, b, c, e, h.same s2, d⟩, g.w5.same s, g.ne, g.fs⟩
theorem Gw.put {K : PySem.W.Frag} {C : Addr} {H : Hp} {sp O x : Addr} {ns : List Str} {es : Ties} {ws : List Int} {n : Nat} {items more : List V} {X : Hp} (g : Gw K C H sp O x ns es ws n items X)
    (h : ∀ v ∈ more, ∃ f' ns' es' ws', v = .ref f' ∧ Form K (del (del X sp) O) f' ns' es' ws' ∧ Dat ns' es' ws') : Gw K C H sp O x ns es ws n (items ++ more) (upd X O (.lst (items ++ more))) := by
  have e := del_del_upd (X := X) (o := .lst (items ++ more)) g.ne
  refine ⟨by rw [e]; exact g.w1, by rw [e]; exact g.w2, upd_same, fun v hv => ?_, g.w5.upd g.ne, g.ne, g.fs⟩
  rw [e]
  rcases List.mem_append.mp hv with hv | hv
  · exact g.w4 v hv
  · exact h v hv
theorem Gw.at_ {K : PySem.W.Frag} {C : Addr} {H : Hp} {sp O x : Addr} {ns : List Str} {es : Ties} {ws : List Int} {n : Nat} {items : List V} {X : Hp} (g : Gw K C H sp O x ns es ws n items X) {z : Addr} {o : HO} (hz : X z = none) : del (del (upd X z o) sp) O z = some o := by
  have h1 : z ≠ O := (ne_of_none g.w3 hz).symm
  have h2 := g.w5.ne hz
  exact del_of h1 (del_of h2 upd_same)
theorem Gw.get {K : PySem.W.Frag} {C : Addr} {H : Hp} {sp O x : Addr} {ns : List Str} {es : Ties} {ws : List Int} {n : Nat} {items : List V} {X : Hp} (g : Gw K C H sp O x ns es ws n items X) {z : Addr} {o : HO} (h : del H sp z = some o) : X z = some o := del_le _ _ (del_le _ _ (g.w2 _ _ h))
theorem Gw.up {K : PySem.W.Frag} {C : Addr} {H : Hp} {sp O x : Addr} {ns : List Str} {es : Ties} {ws : List Int} {n : Nat} {items : List V} {X : Hp} (_ : Gw K C H sp O x ns es ws n items X) {Y : Hp} (s : Same X Y) : Same (del (del X sp) O) (del (del Y sp) O) := same_del (same_del s)
theorem TupsAt.last {K : PySem.W.Frag} {H : Hp} {ti : List V} {tl : V} {ei : Ties} {el : Str × Str} (h : TupsAt K H (ti ++ [tl]) (ei ++ [el])) : TupsAt K H ti ei ∧ TupAt K H tl el := by
  have hl : ti.length = ei.length := by have := h.1; simpa using this
  refine ⟨⟨hl, fun i v e h1 h2 => h.2 i v e ?_ ?_⟩, h.2 ti.length tl el (by simp) (by rw [hl]; simp)⟩
  · rw [List.getElem?_append_left (List.getElem?_eq_some_iff.mp h1).1]; exact h1
  · rw [List.getElem?_append_left (List.getElem?_eq_some_iff.mp h2).1]; exact h2
theorem TupsAt.app {K : PySem.W.Frag} {H : Hp} {ts rs : List V} {es fs : Ties} (h1 : TupsAt K H ts es) (h2 : TupsAt K H rs fs) : TupsAt K H (ts ++ rs) (es ++ fs) := by
  refine ⟨by simp [h1.1, h2.1], fun i v e a b => ?_⟩
  by_cases hi : i < ts.length
  · rw [List.getElem?_append_left hi] at a
    rw [List.getElem?_append_left (by rw [← h1.1]; exact hi)] at b
    exact h1.2 i v e a b
  · rw [List.getElem?_append_right (by omega)] at a
    rw [List.getElem?_append_right (by rw [← h1.1]; omega), ← h1.1] at b
    exact h2.2 _ v e a b
theorem TupsAt.take {K : PySem.W.Frag} {H : Hp} {ts : List V} {es : Ties} (h : TupsAt K H ts es) (k : Nat) : TupsAt K H (ts.take k) (es.take k) := ⟨by simp [h.1], fun i v e a b => by
  rw [List.getElem?_take] at a b
  by_cases hi : i < k
  · rw [if_pos hi] at a b; exact h.2 i v e a b
  · rw [if_neg hi] at a; cases a⟩
theorem TupsAt.drop {K : PySem.W.Frag} {H : Hp} {ts : List V} {es : Ties} (h : TupsAt K H ts es) (k : Nat) : TupsAt K H (ts.drop k) (es.drop k) := ⟨by simp [h.1], fun i v e a b => by
  rw [List.getElem?_drop] at a b
  exact h.2 _ v e a b⟩
theorem two_of {α : Type} : ∀ {l : List α}, 2 ≤ l.length → ∃ u v r, l = u :: v :: r
  | u :: v :: r, _ => ⟨u, v, r, rfl⟩
theorem tups_all {K : PySem.W.Frag} {H : Hp} {ts : List V} {es : Ties} (h : TupsAt K H ts es) : ∀ x ∈ ts, ∃ t i j, x = V.ref t ∧ SqT K H t [.str i, .str j] := fun x hx => by
  obtain ⟨j, hj⟩ := List.getElem?_of_mem hx
  have hl : j < es.length := by rw [← h.1]; exact (List.getElem?_eq_some_iff.mp hj).1
  obtain ⟨a, e, q⟩ := h.2 j x es[j] hj (by simp [hl])
  exact ⟨a, _, _, e, q⟩
def dF (ns : List Str) (es : Ties) (ws : List Int) : PyData := .list [dN ns, dT es, dW ws]
theorem eqv_dF (ns ms : List Str) (es fs : Ties) (ws us : List Int) : PyData.eqv (dF ns es ws) (dF ms fs us) = (decide (ns = ms) && (decide (es = fs) && decide (ws = us))) := by
  show (PyData.eqv (dN ns) (dN ms) && (PyData.eqv (dT es) (dT fs) && (PyData.eqv (dW ws) (dW us) && true))) = _
  rw [eqv_dN, eqv_dT, eqv_dW, Bool.and_true]
theorem sh_dF {ns : List Str} {es : Ties} (h : OkV ns es) (ws : List Int) : SeqAt.shaped (dF ns es ws) = true := by
  have a := sh_dN h.n
  have b := sh_dT h.t
  have c := sh_dW ws
  have a2 := SeqAt.canLay_of_shaped a
  have b2 := SeqAt.canLay_of_shaped b
  have c2 := SeqAt.canLay_of_shaped c
  have a1 : (dN ns).depth ≤ 1 := by
    have h2 := depthAll_map PyData.str 0 ns fun _ _ => Nat.le_refl _
    show PyData.depthAll (ns.map PyData.str) + 1 ≤ 1; omega
  have b1 : (dT es).depth ≤ 2 := by
    have h2 := depthAll_map dP 1 es fun _ _ => Nat.le_refl _
    show PyData.depthAll (es.map dP) + 1 ≤ 2; omega
  have c1 : (dW ws).depth ≤ 1 := by
    have h2 := depthAll_map PyData.int 0 ws fun _ _ => Nat.le_refl _
    show PyData.depthAll (ws.map PyData.int) + 1 ≤ 1; omega
  unfold SeqAt.shaped
  have h1 : (dF ns es ws).canLay0 = true := by
    show ((dN ns).canLay0 && ((dT es).canLay0 && ((dW ws).canLay0 && true))) = true
    rw [a2, b2, c2]; rfl
  have h3 : (dF ns es ws).depth ≤ 64 := by
    show max (dN ns).depth (max (dT es).depth (max (dW ws).depth 0)) + 1 ≤ 64
    omega
  rw [h1, decide_eq_true h3]; rfl
theorem dp_dF {K : PySem.W.Frag} {H : Hp} {l a b c : Addr} {ns : List Str} {es : Ties} {ws : List Int} {ts : List V} (h : H l = some (.lst [.ref a, .ref b, .ref c])) (h1 : SqL K H a (ns.map V.str)) (h2 : SqL K H b ts) (t : TupsAt K H ts es) (h3 : SqL K H c (ws.map V.int)) : Dp K H (.ref l) (dF ns es ws) :=
  .lst (SqL.of h) (.cons (dp_dN h1) (.cons (dp_dT h2 t) (.cons (dp_dW h3) .nil)))
def dB (b c : Bool) : PyData := .list [.bool b, .bool c]
theorem sh_dB (b c : Bool) : SeqAt.shaped (dB b c) = true := by cases b <;> cases c <;> decide +kernel
theorem eqv_dB (b c : Bool) : PyData.eqv (dB b c) (dB b c) = true := by cases b <;> cases c <;> decide +kernel
theorem dp_dB {K : PySem.W.Frag} {H : Hp} {l : Addr} {b c : Bool} (h : H l = some (.lst [.bl b, .bl c])) : Dp K H (.ref l) (dB b c) := .lst (SqL.of h) (.cons (.bl b) (.cons (.bl c) .nil))
theorem Gw.frm {K : PySem.W.Frag} {C : Addr} {H : Hp} {sp O x : Addr} {ns : List Str} {es : Ties} {ws : List Int} {n n' : Nat} {items : List V} {X Y : Hp} (g : Gw K C H sp O x ns es ws n items X) (s : Frm sp X Y) (h : Spr Y sp n') : Gw K C H sp O x ns es ws n' items Y := by
  have s2 : Same (del (del X sp) O) (del (del Y sp) O) := same_del s
  exact ⟨g.w1.same s2, g.w2.trans s2, s.at_ g.ne g.w3, fun v hv => let ⟨f', a, b, c, e, h, d⟩ := g.w4 v hv; ⟨f', a, b, c, e, h.same s2, d⟩, h, g.ne, g.fs⟩
end HS

set_option maxHeartbeats 4000000
namespace HS
open PySem PySem.Spec L2
section
variable {P : Program} {w : World} {K : PySem.W.Frag} {mg : Str → Option Value} {base : Heap} {D : Ads}
theorem ix_listK {X : Cx} {K : PySem.W.Frag} (hK : X.K = K) : IxR X (rIxL K) := by
  subst hK
  exact ix_list
theorem pe_neg1 {X : Cx} {k : Nat} {p1 p2 : Pos} : PE X (.UnaryOp .USub (.Constant (.int 1) k p1) p2) (tC (.int (-1))) := pe_imp (pe_un un_neg pe_int) fun σ H Q q => ⟨1, rfl, q⟩
theorem tseq_any {s u : TS} {D : Ends} {σ : L2.St} {H : Hp} (J : L2.St → Hp → Prop) (hrest : ∀ σ H, J σ H → u D σ H) (h : (∀ σ H, J σ H → u D σ H) → s { D with nx := u D } σ H) : tSeq s u D σ H := h hrest
def sp_equal (K : PySem.W.Frag) : Sp := fun vs H Q _ => ∃ (sp f : Addr) (n : Nat) (ns : List Str) (es : Ties) (ws : List Int), vs = [.ref sp, .ref f] ∧ Spr H sp n ∧ n ≤ 600000000 ∧ Form K (del H sp) f ns es ws ∧ Dat ns es ws ∧
  ∀ H', Spr H' sp (n + 3000) → Frm sp H H' → Q (.bl true) H'
abbrev NE : List Str := ["spring", "form", "made", "again", "names", "ties", "news", "others", "more", "other", "found", "due", "odd", "name"]
theorem sc_equal : FnScope NE ["spring", "form"] (defScope s_law_equal_right) := ⟨rfl, rfl, rfl, by decide +kernel, rfl, by decide +kernel, by decide +kernel⟩
theorem ok_equal (T : Txt K mg D) : FnOk P w K mg base CX0 8 D.a_law_equal_right D.d_law_equal_right ["spring", "form"] (sp_equal K) := by
  have G7 : FnOk P w K mg base CX0 7 D.a_law_v_made D.d_law_v_made ["spring", "form"] (sp_v_made K D) := ok_v_made T
  have G5 : FnOk P w K mg base (L2.CX P w) 5 D.a_v_init D.d_v_init ["self", "people", "ties", "news"] (sp_vinit K D) := ok_vinit T
  have nd := sc_equal.nd
  refine T.F_law_equal_right.ok sc_equal (fun vs H Q E h => ?_) (fun cdv A outer s H vs Q E hr h => ?_)
  · obtain ⟨sp, f, n, ns, es, ws, rfl, _⟩ := h
    rfl
  · obtain ⟨sp, f, n, ns, es, ws, rfl, hs, hn, ⟨a, b, c, ts, ef, ea, eb, tt, ec⟩, dat, q⟩ := h
    have hr6 : Room 6 _ := hr.mono (by decide)
    have hr2 : Room 2 _ := hr.mono (by decide)
    have hr1 : Room 1 _ := hr.mono (by decide)
    have hu := hr.units
    refine' ⟨_, pss_cons (ps_asg (pe_tup (pa_cons (pe_call G7 hr rfl T.g_law_v_made T.F_law_v_made.kp T.b_law_v_made .nil pass0 (pa_cons (pv 0) (pa_cons (pv 1) pa_nil)))
          (pa_cons (pe_makeK0 (C := D.C) (sp := sp_vinit K D) T.mkr G5 hr6 rfl T.gC (kb_init T) pass9 (pk_cons (pe_ix ix_tup (pv 1) pe_int (fun _ _ => rfl)) (pk_cons (pe_ix ix_tup (pv 1) pe_int (fun _ _ => rfl)) (pk_cons (pe_ix ix_tup (pv 1) pe_int (fun _ _ => rfl)) pk_nil)))) pa_nil)))
          (pg_tup (by rfl) (pgs_cons (pg_name (i := 2) nd rfl (Or.inr rfl)) (pgs_cons (pg_name (i := 3) nd rfl (Or.inl rfl)) pgs_nil))))
      (pss_cons (ps_if (PW.pt (pw_or (pt_not (pt_cmpR (op_eqVil T rfl rfl hr1) (pv 2) (pv 3) (nomark _))) (pw_or (pt_cmpR (op_neVil T rfl rfl hr2) (pv 2) (pv 3) (nomark _)) (pw_or1 (pt_val (pe_callB (cr_any rfl) (by rfl) T.z_any boot_any' (pa_cons
            (pe_lc (own := [("odd", 12)]) (g := gName 12) (tt := tYes) rfl nd (pi_tup (pe_tup (pa_cons (pv 1) (pa_cons (pe_ix ix_tup (pv 1) pe_int (fun _ _ => rfl)) (pa_cons pe_non (pa_cons pe_int (pa_cons pe_str pa_nil))))))) (blkOk_by (N := NE) (sc := defScope s_law_equal_right) (by decide +kernel))
              (fun _ _ _ _ _ => pg_name (i := 12) nd rfl (Or.inl rfl)) (fun _ _ _ _ _ => pts_nil) (fun _ _ _ _ _ => pe_cmpR (op_eqVil T rfl rfl hr1) (pv 2) (pv 12) (nomark _))) pa_nil))))))) pss_no pss_nil)
      (pss_cons (ps_asg (pv 1) (pg_tup (by rfl) (pgs_cons (pg_name (i := 4) nd rfl (Or.inr rfl)) (pgs_cons (pg_name (i := 5) nd rfl (Or.inl rfl)) (pgs_cons (pg_name (i := 6) nd rfl (Or.inl rfl)) pgs_nil)))))
      (pss_cons (ps_set (i := 7) nd rfl (Or.inl rfl) (pe_lst (pa_cons (pe_tup (pa_cons (pv 4) (pa_cons (pv 5) (pa_cons (pe_op op_cat (pe_slice sl_list (pv 6) po_none (po_some pe_neg1)) (pe_lst (pa_cons (pe_ifExp (pt_cmpR op_gt (pe_ix ix_list (pv 6) pe_neg1 (fun _ _ => rfl)) pe_int (nomark _)) pe_int pe_int) pa_nil))) pa_nil)))) pa_nil)))
      (pss_cons (ps_if (pt_cmpR op_gt (pe_callB call_len_seq (by rfl) T.z_len PySem.boot_len (pa_cons (pv 4) pa_nil)) pe_int (nomark _))
          (pss_one (ps_expr (pe_bm PySem.F.plainAttrs_list PySem.F.slot_list_extend PySem.F.type_list_extend mt_extend (pv 7) (pa_cons (pe_lst (pa_cons (pe_tup (pa_cons (pe_revL (pv 4)) (pa_cons (pv 5) (pa_cons (pv 6) pa_nil))))
            (pa_cons (pe_tup (pa_cons (pv 4) (pa_cons (pe_op op_cat (pe_slice sl_list (pv 5) po_none (po_some pe_neg1)) (pe_lst (pa_cons (pe_revT (K := K) rfl (pe_ix ix_list (pv 5) pe_neg1 (fun _ _ => rfl))) pa_nil))) (pa_cons (pv 6) pa_nil)))) pa_nil))) pa_nil)))) pss_nil)
      (pss_cons (ps_if (pt_cmpR op_gt (pe_callB call_len_seq (by rfl) T.z_len PySem.boot_len (pa_cons (pv 5) pa_nil)) pe_int (nomark _))
          (pss_one (ps_expr (pe_bm PySem.F.plainAttrs_list PySem.F.slot_list_append PySem.F.type_list_append mt_append (pv 7) (pa_cons (pe_tup (pa_cons (pv 4) (pa_cons (pe_op op_cat (pe_slice sl_list (pv 5) (po_some pe_int) po_none) (pe_slice sl_list (pv 5) po_none (po_some pe_int))) (pa_cons (pv 6) pa_nil)))) pa_nil)))) pss_nil)
      (pss_cons (ps_if (pt_cmpR op_gt (pe_callB call_len_seq (by rfl) T.z_len PySem.boot_len (pa_cons (pv 4) pa_nil)) pe_int (nomark _))
          (pss_cons (ps_set (i := 8) nd rfl (Or.inl rfl) (pe_op op_cat (pe_lst (pa_cons (pe_tup (pa_cons (pe_ix ix_list (pv 4) pe_int (fun _ _ => rfl)) (pa_cons (pe_ix ix_list (pv 4) pe_int (fun _ _ => rfl)) pa_nil))) pa_nil))
              (pe_lc (own := [("name", 13)]) (g := gName 13) (tt := tYes) rfl nd (pi_list (pe_slice sl_list (pv 4) (po_some pe_int) po_none)) (blkOk_by (N := NE) (sc := defScope s_law_equal_right) (by decide +kernel))
                (fun _ _ _ _ _ => pg_name (i := 13) nd rfl (Or.inl rfl)) (fun _ _ _ _ _ => pts_nil) ?inner)))
          (pss_one (ps_expr (pe_bm PySem.F.plainAttrs_list PySem.F.slot_list_extend PySem.F.type_list_extend mt_extend (pv 7) (pa_cons (pe_ifExp (pt_cmpR (op_neD hu) (pe_callB cr_sortedS (by rfl) T.z_sorted PyProof.Rows.boot_sorted (pa_cons (pv 8) pa_nil)) (pe_callB cr_sortedS (by rfl) T.z_sorted PyProof.Rows.boot_sorted (pa_cons (pv 5) pa_nil)) (nomark _))
              (pe_lst (pa_cons (pe_tup (pa_cons (pv 4) (pa_cons (pv 8) (pa_cons (pv 6) pa_nil)))) pa_nil)) (pe_lst pa_nil)) pa_nil))))) pss_nil)
      (pss_cons (ps_for PassesOwn.never rfl (pi_list (pv 7)) (pg_name (i := 9) nd rfl (Or.inl rfl))
          (pss_cons (ps_set (i := 10) nd rfl (Or.inl rfl) (pe_lst (pa_cons (pe_cmpR (op_eqVil T rfl rfl hr1) (pv 2) (pe_call G7 hr rfl T.g_law_v_made T.F_law_v_made.kp T.b_law_v_made .nil pass0 (pa_cons (pv 0) (pa_cons (pv 9) pa_nil))) (nomark _))
              (pa_cons (pe_cmpR (op_neVil T rfl rfl hr2) (pv 2) (pe_call G7 hr rfl T.g_law_v_made T.F_law_v_made.kp T.b_law_v_made .nil pass0 (pa_cons (pv 0) (pa_cons (pv 9) pa_nil))) (nomark _)) pa_nil))))
          (pss_cons (ps_set (i := 11) nd rfl (Or.inl rfl) (pe_cmpR (op_eqD hu) (pe_callTy call_list_of (by rfl) T.z_list boot_list' (pa_cons (pv 9) pa_nil)) (pe_lst (pa_cons (pe_callTy call_list_of (by rfl) T.z_list boot_list' (pa_cons (pv 4) pa_nil)) (pa_cons (pe_callTy call_list_of (by rfl) T.z_list boot_list' (pa_cons (pv 5) pa_nil)) (pa_cons (pe_callTy call_list_of (by rfl) T.z_list boot_list' (pa_cons (pv 6) pa_nil)) pa_nil)))) (nomark _)))
          (pss_one (ps_if (pt_cmpR (op_neD hu) (pv 10) (pe_lst (pa_cons (pv 11) (pa_cons (pe_not (pv 11)) pa_nil))) (nomark _)) pss_no pss_nil)))))
      (pss_one (ps_ret pe_bl))))))))), ?_⟩
    case inner => exact fun _ _ _ _ _ => pe_tup (pa_cons (pe_ix (ix_listK (K := K) rfl) (pv 4) pe_int (fun _ _ => rfl)) (pa_cons (pv 13) pa_nil))
    have hsT : ∀ {X : Hp}, Frm sp H X → SqT K X f [.ref a, .ref b, .ref c] := fun fx => SqT.of (del_le _ _ (fx _ _ ef))
    have hl := dat.len
    have ht := dat.tree.len
    have hwl := dat.wl
    have okv : OkV ns es := ⟨dat.ok, fun e he => ⟨dat.ok _ (dat.tree.mem e he).1, dat.ok _ (dat.tree.mem e he).2⟩⟩
    refine ⟨_, rfl, _, rfl, sp, f, n, ns, es, ws, rfl, hs, by omega, ⟨a, b, c, ts, ef, ea, eb, tt, ec⟩, dat, fun x H1 hv1 hs1 f1 => ?_⟩
    refine ⟨_, rfl, f, _, _, .ref c, rfl, rfl, hsT f1, atI_nat (j := 2) rfl, _, rfl, f, _, _, .ref b, rfl, rfl, hsT f1, atI_nat (j := 1) rfl, _, rfl, f, _, _, .ref a, rfl, rfl, hsT f1, atI_nat (j := 0) rfl, rfl, rfl, ?_⟩
    have at1 : ∀ {z : Addr} {o : HO}, del H sp z = some o → H1 z = some o := fun e => del_le _ _ (f1 _ _ e)
    refine make_good (.inl (SqL.of (at1 ea))) (.inl (SqL.of (at1 eb))) ⟨tt.1, fun i v e h1 h2 => ?_⟩ (.inl (SqL.of (at1 ec))) dat.good dat.ne (by omega) dat.tree dat.wl dat.w1 fun y H2 hy s12 hv2 => ?_
    · obtain ⟨p, e1, e2⟩ := (tt.same (Same.trans f1 del_le)).2 i v e h1 h2
      exact ⟨p, e1, .inr e2⟩
    refine ⟨(by show 2 ≤ sizeLine; decide), fun t ht2 => ?_⟩
    have s2t : Same H2 (upd H2 t (.tup [.ref x, .ref y])) := same_new ht2
    refine ⟨t, _, rfl, SqT.of upd_same, rfl, _, _, rfl, _, _, rfl, rfl, ?_⟩
    have spN : ∀ {X : Hp} {z : Addr} {o : HO} {k : Nat}, Spr X sp k → fr X H1 z = some o → z ≠ sp := fun hX e w0 => by
      obtain ⟨_, e2, _⟩ := hX
      have := (fr_in e).1
      rw [w0, e2] at this; cases this
    have hx1 : Vil K D.C (del H1 sp) x ns es ws := hv1.same fun z o e => del_of (spN hs e) (fr_in e).2
    have hy2 : Vil K D.C (del H2 sp) y ns es ws := hv2.same fun z o e => del_of (fun w0 => by
      obtain ⟨_, e2, _⟩ := hs1
      have := (fr_in e).1
      rw [w0, e2] at this; cases this) (fr_in e).2
    have f12 : Frm sp H1 (upd H2 t (.tup [.ref x, .ref y])) := frm_same (s12.trans s2t)
    have hx3 := hx1.same f12
    have hy3 := hy2.same (same_del s2t)
    have hs3 := hs1.same (s12.trans s2t)
    have f3 := f1.trans f12
    generalize upd H2 t (.tup [.ref x, .ref y]) = H3 at hx3 hy3 hs3 f3 ⊢
    have bb : (decide (ns = ns) && (decide (es = es) && decide (ws = ws))) = true := by simp
    have hx3' := hx3.same del_le
    have hy3' := hy3.same del_le
    refine ⟨_, rfl, _, rfl, x, ns, es, ws, _, rfl, hx3', okv, .vil hy3' okv, _, rfl, ite2 (fun c => by simp at c) (fun _ => ?_)⟩
    refine ⟨_, rfl, _, rfl, x, ns, es, ws, _, rfl, hx3', okv, .vil hy3' okv, _, rfl, ite2 (fun c => by simp at c) (fun _ => ?_)⟩
    refine ⟨_, rfl, _, rfl, f, _, _, .ref a, rfl, rfl, hsT f3, atI_nat (j := 0) rfl, (by show 5 ≤ sizeLine; decide), fun t5 ht5 => ?_⟩
    have s35 : Same H3 (upd H3 t5 (.tup [.ref f, .ref a, .non, .int 5, .str "b"])) := same_new ht5
    have e5 : upd H3 t5 (.tup [.ref f, .ref a, .non, .int 5, .str "b"]) t5 = some (.tup [.ref f, .ref a, .non, .int 5, .str "b"]) := upd_same
    generalize upd H3 t5 (.tup [.ref f, .ref a, .non, .int 5, .str "b"]) = H5 at s35 e5 ⊢
    have f5 : Frm sp H H5 := f3.trans (frm_same s35)
    refine ⟨t5, rfl, ⟨_, SqT.of e5⟩, fun L hL => ?_⟩
    refine lc_growC (walk_tup (xs := [.ref f, .ref a, .non, .int 5, .str "b"])) (fun _ => true) (fun _ => V.bl false) hL (by show 5 ≤ 1000000; decide) (fun X sX => SqT.of (sX _ _ e5)) (fun i v X0 X hi sX yy N0 N1 m0 m1 => ?_) fun H6 s56 e6 => ?_
    · obtain ⟨rfl, hv⟩ := yy
      have sHX : Same H3 X := s35.trans sX
      have fX : Frm sp H X := f3.trans (frm_same sHX)
      have odd : ∃ k, TyK K X v k := by
        match i, hv with
        | 0, hv => cases hv; exact ⟨.tup, TyK.seqT (hsT fX)⟩
        | 1, hv => cases hv; exact ⟨.lst, TyK.seqL (SqL.of (del_le _ _ (fX _ _ ea)))⟩
        | 2, hv => cases hv; exact ⟨.non, .non⟩
        | 3, hv => cases hv; exact ⟨.int, .int 5⟩
        | 4, hv => cases hv; exact ⟨.str, .str _⟩
        | k + 5, hv => simp at hv
      obtain ⟨k, ty⟩ := odd
      exact ⟨rfl, _, rfl, _, rfl, x, ns, es, ws, _, rfl, hx3'.same sHX, okv, .odd ty, m1 _ rfl (Same.refl _)⟩
    have s36 : Same H3 H6 := s35.trans s56
    refine ⟨L, [false, false, false, false, false], rfl, SqL.of e6, _, rfl, iteF ?_⟩
    have f6 := f3.trans (frm_same s36)
    have hx6 := hx3.same (same_del s36)
    have hs6 := hs3.same s36
    clear hx1 hy2 hx3 hy3 hx3' hy3' e5 e6 s35 s36 s56 hs3 f5 hL ht5
    have ats : ∀ {X : Hp} {z : Addr} {o : HO}, Frm sp H X → del H sp z = some o → X z = some o := fun fx e => del_le _ _ (fx _ _ e)
    refine ⟨_, rfl, f, _, rfl, hsT f6, rfl, _, _, rfl, _, _, rfl, _, _, rfl, rfl, ?_⟩
    have wne : ws ≠ [] := fun z => by rw [z] at hwl; simp at hwl; omega
    obtain ⟨wi, wl, ew⟩ := snoc_of wne
    have ecm : ws.map V.int = wi.map V.int ++ [V.int wl] := by rw [ew, List.map_append]; rfl
    dsimp only
    refine tseq_any (fun σ X => ∃ O items v8, σ = [some (.ref sp), some (.ref f), some (.ref x), some (.ref y), some (.ref a), some (.ref b), some (.ref c), some (.ref O), v8, none, none, none, none, none] ∧ items.length ≤ 1 ∧ Gw K D.C H sp O x ns es ws (n + 200) items X) ?_ (fun go => ?_)
    · rintro σ X ⟨O, items, v8, rfl, hil, g⟩
      refine tseq_any (fun σ X => ∃ O items v8, σ = [some (.ref sp), some (.ref f), some (.ref x), some (.ref y), some (.ref a), some (.ref b), some (.ref c), some (.ref O), v8, none, none, none, none, none] ∧ items.length ≤ 3 ∧ Gw K D.C H sp O x ns es ws (n + 200) items X) ?_ (fun go => ?_)
      · rintro σ X ⟨O, items, v8, rfl, hil, g⟩
        refine tseq_any (fun σ X => ∃ O items v8, σ = [some (.ref sp), some (.ref f), some (.ref x), some (.ref y), some (.ref a), some (.ref b), some (.ref c), some (.ref O), v8, none, none, none, none, none] ∧ items.length ≤ 4 ∧ Gw K D.C H sp O x ns es ws (n + 200) items X) ?_ (fun go => ?_)
        · rintro σ X ⟨O, items, v8, rfl, hil, g⟩
          refine tseq_any (fun σ X => ∃ O items v8, σ = [some (.ref sp), some (.ref f), some (.ref x), some (.ref y), some (.ref a), some (.ref b), some (.ref c), some (.ref O), v8, none, none, none, none, none] ∧ items.length ≤ 5 ∧ Gw K D.C H sp O x ns es ws (n + 200) items X) ?_ (fun go => ?_)
          · rintro σ X ⟨O, items, v8, rfl, hil, g⟩
            have gl : ∀ {Z : Hp}, Same (del (del Z sp) O) Z := Same.trans del_le del_le
            refine ⟨_, rfl, O, rfl, ⟨_, SqL.of g.w3⟩, ?_⟩
            refine for_it (walk_list (xs := items)) (fun i σ Y => i ≤ 5 ∧ (∃ n', n' ≤ n + 200 + 400 * i ∧ Gw K D.C H sp O x ns es ws n' items Y) ∧ ∃ v9 v10 v11, σ = [some (.ref sp), some (.ref f), some (.ref x), some (.ref y), some (.ref a), some (.ref b), some (.ref c), some (.ref O), v8, v9, v10, v11, none, none])
              ⟨Nat.zero_le _, ⟨n + 200, by omega, g⟩, none, none, none, rfl⟩ (fun i σ Y _ p => by obtain ⟨_, ⟨n', _, g⟩, _⟩ := p; exact SqL.of g.w3) ?_ ?_
            · rintro i v σ Y0 Y hi ⟨_, ⟨n', hn', g⟩, v9, v10, v11, rfl⟩ ⟨rfl, hv⟩
              obtain ⟨f', ms, fs, us, rfl, hF, dat'⟩ := g.w4 v (List.mem_of_getElem? hv)
              have hF' : Form K (del Y sp) f' ms fs us := hF.same del_le
              refine ⟨_, rfl, _, rfl, _, rfl, sp, f', n', ms, fs, us, rfl, g.w5, by omega, hF', dat', fun y1 Y1 hv1 hs1 f1 => ?_⟩
              have g1 := g.frm f1 hs1
              refine ⟨x, ns, es, ws, _, rfl, g1.w1.same gl, okv, .vil (hv1.same fr_le) dat'.okv, ?_⟩
              refine ⟨_, rfl, _, rfl, _, rfl, sp, f', _, ms, fs, us, rfl, hs1, by omega, hF'.same f1, dat', fun y2 Y2 hv2 hs2 f2 => ?_⟩
              have g2 := g1.frm f2 hs2
              refine ⟨x, ns, es, ws, _, rfl, g2.w1.same gl, okv, .vil (hv2.same fr_le) dat'.okv, ?_⟩
              refine ⟨(by show 2 ≤ sizeLine; decide), fun l hl => ?_⟩
              have gg : ∀ {A B : Hp}, Same A B → Same (del (del A sp) O) (del (del B sp) O) := fun s => same_del (same_del s)
              have s3 : Same Y2 (upd Y2 l (.lst [.bl (if false = true then !(decide (ns = ms) && (decide (es = fs) && decide (ws = us))) else (decide (ns = ms) && (decide (es = fs) && decide (ws = us)))), .bl (if true = true then !(decide (ns = ms) && (decide (es = fs) && decide (ws = us))) else (decide (ns = ms) && (decide (es = fs) && decide (ws = us))))])) := same_new hl
              have e3 : upd Y2 l (.lst [.bl (if false = true then !(decide (ns = ms) && (decide (es = fs) && decide (ws = us))) else (decide (ns = ms) && (decide (es = fs) && decide (ws = us)))), .bl (if true = true then !(decide (ns = ms) && (decide (es = fs) && decide (ws = us))) else (decide (ns = ms) && (decide (es = fs) && decide (ws = us))))]) l = some (.lst [.bl (decide (ns = ms) && (decide (es = fs) && decide (ws = us))), .bl (!(decide (ns = ms) && (decide (es = fs) && decide (ws = us))))]) := upd_same
              have g3 := g2.step s3
              generalize upd Y2 l (.lst [.bl (if false = true then !(decide (ns = ms) && (decide (es = fs) && decide (ws = us))) else (decide (ns = ms) && (decide (es = fs) && decide (ws = us)))), .bl (if true = true then !(decide (ns = ms) && (decide (es = fs) && decide (ws = us))) else (decide (ns = ms) && (decide (es = fs) && decide (ws = us))))]) = Y3 at s3 e3 g3 ⊢
              have hF3 : Form K (del Y3 sp) f' ms fs us := hF'.same ((f1.trans f2).trans (frm_same s3))
              obtain ⟨a', b', c', ts', k1, k2, k3, k4, k5⟩ := hF3
              have dl : ∀ {A : Hp}, Same (del A sp) A := del_le
              refine ⟨_, rfl, f', _, rfl, .inr (SqT.of (dl _ _ k1)), fun l2 hl2 => ?_⟩
              have s4 : Same Y3 (upd Y3 l2 (.lst [.ref a', .ref b', .ref c'])) := same_new hl2
              have e4 : upd Y3 l2 (.lst [.ref a', .ref b', .ref c']) l2 = some (.lst [.ref a', .ref b', .ref c']) := upd_same
              have g4 := g3.step s4
              generalize upd Y3 l2 (.lst [.ref a', .ref b', .ref c']) = Y4 at s4 e4 g4 ⊢
              refine ⟨_, rfl, a, _, rfl, .inl (SqL.of (g4.get ea)), fun l3 hl3 => ?_⟩
              have s5 : Same Y4 (upd Y4 l3 (.lst (ns.map V.str))) := same_new hl3
              have e5 : upd Y4 l3 (.lst (ns.map V.str)) l3 = some (.lst (ns.map V.str)) := upd_same
              have g5 := g4.step s5
              generalize upd Y4 l3 (.lst (ns.map V.str)) = Y5 at s5 e5 g5 ⊢
              refine ⟨_, rfl, b, _, rfl, .inl (SqL.of (g5.get eb)), fun l4 hl4 => ?_⟩
              have s6 : Same Y5 (upd Y5 l4 (.lst ts)) := same_new hl4
              have e6 : upd Y5 l4 (.lst ts) l4 = some (.lst ts) := upd_same
              have g6 := g5.step s6
              generalize upd Y5 l4 (.lst ts) = Y6 at s6 e6 g6 ⊢
              refine ⟨_, rfl, c, _, rfl, .inl (SqL.of (g6.get ec)), fun l5 hl5 => ⟨(by show 3 ≤ sizeLine; decide), fun l6 hl6 => ?_⟩⟩
              have s7 : Same Y6 (upd Y6 l5 (.lst (ws.map V.int))) := same_new hl5
              have e7 : upd Y6 l5 (.lst (ws.map V.int)) l5 = some (.lst (ws.map V.int)) := upd_same
              have g7 := g6.step s7
              generalize upd Y6 l5 (.lst (ws.map V.int)) = Y7 at s7 e7 g7 hl6 ⊢
              have s8 : Same Y7 (upd Y7 l6 (.lst [.ref l3, .ref l4, .ref l5])) := same_new hl6
              have e8 : upd Y7 l6 (.lst [.ref l3, .ref l4, .ref l5]) l6 = some (.lst [.ref l3, .ref l4, .ref l5]) := upd_same
              have g8 := g7.step s8
              generalize upd Y7 l6 (.lst [.ref l3, .ref l4, .ref l5]) = Y8 at s8 e8 g8 ⊢
              have s58 := ((s5.trans s6).trans s7).trans s8
              have s38 := s4.trans s58
              refine ⟨dF ms fs us, dF ns es ws, dp_dF (s58 _ _ e4) (SqL.of (s38 _ _ (dl _ _ k2))) (SqL.of (s38 _ _ (dl _ _ k3))) ((k4.same dl).same s38) (SqL.of (s38 _ _ (dl _ _ k5))), dp_dF e8 (SqL.of (s8 _ _ (s7 _ _ (s6 _ _ e5)))) (SqL.of (s8 _ _ (s7 _ _ e6))) (tt.same (g8.w2.trans gl)) (SqL.of (s8 _ _ e7)), sh_dF dat'.okv us, sh_dF okv ws, ?_⟩
              rw [eqv_dF]
              have be : (decide (ms = ns) && (decide (fs = es) && decide (us = ws))) = (decide (ns = ms) && (decide (es = fs) && decide (ws = us))) := by
                rw [show decide (ms = ns) = decide (ns = ms) from decide_eq_decide.mpr eq_comm, show decide (fs = es) = decide (es = fs) from decide_eq_decide.mpr eq_comm, show decide (us = ws) = decide (ws = us) from decide_eq_decide.mpr eq_comm]
              rw [be]
              have e9 := s38 _ _ e3
              generalize (decide (ns = ms) && (decide (es = fs) && decide (ws = us))) = B at e9 ⊢
              refine ⟨_, rfl, _, rfl, _, rfl, B, rfl, (by show 2 ≤ sizeLine; decide), fun l7 hl7 => ?_⟩
              have g9 := g8.step (same_new (o := .lst [.bl B, .bl (!B)]) hl7)
              refine ⟨dB B (!B), dB B (!B), dp_dB (same_new hl7 _ _ e9), dp_dB upd_same, sh_dB _ _, sh_dB _ _, _, rfl, ?_⟩
              rw [eqv_dB]
              refine iteF ?_
              exact ⟨by omega, ⟨_, by omega, g9⟩, _, _, _, rfl⟩
            · rintro σ Y ⟨_, ⟨n', hn', g⟩, v9, v10, v11, rfl⟩
              have hn2 : n' ≤ n + 200 + 400 * items.length := hn'
              exact q Y (g.w5.mono (by omega)) (fun z o e => del_of (fun w0 => by rw [w0, del_same] at e; cases e) (gl _ _ (g.w2 _ _ e)))
          · refine ⟨_, rfl, a, _, rfl, .inl (SqL.of (g.get ea)), _, _, rfl, rfl, _, rfl, ite2 (fun cc => ?_) (fun _ => go _ _ ⟨O, items, v8, rfl, by omega, g⟩)⟩
            have hn2 : 2 < ns.length := by
              have : (2 : Int) < ns.length := by simpa using cc
              omega
            obtain ⟨n0, n1, r, er⟩ := two_of (Nat.le_of_lt hn2)
            have ea' : del H sp a = some (.lst (V.str n0 :: V.str n1 :: r.map V.str)) := by rw [er] at ea; exact ea
            dsimp only
            refine ⟨_, rfl, a, _, _, .str n0, rfl, rfl, SqL.of (g.get ea'), atI_nat (j := 0) rfl, _, rfl, a, _, _, .str n1, rfl, rfl, SqL.of (g.get ea'), atI_nat (j := 1) rfl, (by show 2 ≤ sizeLine; decide), fun t1 ht1 => ⟨(by show 1 ≤ sizeLine; decide), fun l1 hl1 => ?_⟩⟩
            have s1 : Same X (upd X t1 (.tup [.str n0, .str n1])) := same_new ht1
            have e1 := g.at_ (o := .tup [.str n0, .str n1]) ht1
            have g1 := g.step s1
            generalize upd X t1 (.tup [.str n0, .str n1]) = X1 at s1 e1 g1 hl1 ⊢
            have s2 : Same X1 (upd X1 l1 (.lst [.ref t1])) := same_new hl1
            have e2 := g1.at_ (o := .lst [.ref t1]) hl1
            have g2 := g1.step s2
            generalize upd X1 l1 (.lst [.ref t1]) = X2 at s2 e2 g2 ⊢
            refine ⟨_, rfl, _, rfl, a, _, rfl, SqL.of (g2.get ea'), fun p1 hp1 => ?_⟩
            have c3 : cutV (V.str n0 :: V.str n1 :: r.map V.str) (some 2) none = r.map V.str := (cut_from _ (j := 2) (by simp)).trans rfl
            rw [c3]
            have s3 : Same X2 (upd X2 p1 (.lst (r.map V.str))) := same_new hp1
            have e3 := g2.at_ (o := .lst (r.map V.str)) hp1
            have g3 := g2.step s3
            generalize upd X2 p1 (.lst (r.map V.str)) = X3 at s3 e3 g3 ⊢
            have e3' : X3 p1 = some (.lst (r.map V.str)) := del_le _ _ (del_le _ _ e3)
            refine ⟨p1, rfl, ⟨_, SqL.of e3'⟩, fun L hL => ?_⟩
            refine lc_it (walk_list (xs := r.map V.str)) (fun i Y => i ≤ r.length ∧ Same X3 Y ∧ ∃ acc, Y L = some (.lst acc) ∧ TupsAt K (del (del (del Y sp) O) L) acc ((r.take i).map fun z => (n0, z))) ⟨Nat.zero_le _, same_new hL, [], upd_same, rfl, fun i v e h => by simp at h⟩ (fun i Y _ p => SqL.of (p.2.1 _ _ e3')) (fun i v Y0 Y hi p yy => ?_) fun Y p => ?_
            · obtain ⟨rfl, hv⟩ := yy
              obtain ⟨_, sY, acc, eL, tac⟩ := p
              rw [List.length_map] at hi
              rw [List.getElem?_map] at hv
              obtain ⟨z, hz, rfl⟩ := Option.map_eq_some_iff.mp hv
              have gY := g3.step sY
              refine ⟨rfl, _, rfl, a, _, _, .str n0, rfl, rfl, SqL.of (gY.get ea'), atI_nat (j := 0) rfl, _, rfl, (by show 2 ≤ sizeLine; decide), fun q1 hq1 => ?_⟩
              have Lq : L ≠ q1 := ne_of_none eL hq1
              have hal : acc.length ≤ 15 := by
                rw [tac.1]
                have := dat.len
                rw [er] at this
                simp at this ⊢
                omega
              refine ⟨acc, by rw [upd_ne Lq]; exact eL, small5000 (by omega), hi, same_upd (Same.new' sY hq1) hL, acc ++ [.ref q1], upd_same, ?_⟩
              have gq := gY.at_ (o := .tup [.str n0, .str z]) hq1
              have Lsp : L ≠ sp := g3.w5.ne hL
              have LO : L ≠ O := (ne_of_none g3.w3 hL).symm
              have ee : del (del (del (upd (upd Y q1 (.tup [.str n0, .str z])) L (.lst (acc ++ [.ref q1]))) sp) O) L = del (del (del (upd Y q1 (.tup [.str n0, .str z])) sp) O) L := by
                funext u
                by_cases h1 : u = L
                · rw [h1, del_same, del_same]
                · rw [del_ne h1, del_ne h1]
                  by_cases h2 : u = O
                  · rw [h2, del_same, del_same]
                  · rw [del_ne h2, del_ne h2]
                    by_cases h3 : u = sp
                    · rw [h3, del_same, del_same]
                    · rw [del_ne h3, del_ne h3, upd_ne h1]
              rw [ee, take_snoc hz, List.map_append]
              exact (tac.same (same_del (same_del (same_del (same_new hq1))))).snoc (e := (n0, z)) (SqT.of (del_of Lq.symm gq))
            · obtain ⟨_, sY, acc, eL, tac⟩ := p
              rw [List.length_map, List.take_length] at tac
              have g4 := g3.step sY
              have s23 := s3.trans sY
              have hal : acc.length ≤ 15 := by
                rw [tac.1]
                have := dat.len
                rw [er] at this
                simp at this ⊢
                omega
              refine ⟨l1, L, _, _, rfl, rfl, del_le _ _ (del_le _ _ (g2.up s23 _ _ e2)), eL, Nat.le_of_lt (small5000 (by simp; omega)), fun m hm => ?_⟩
              have s5 : Same Y (upd Y m (.lst ([.ref t1] ++ acc))) := same_new hm
              have e5 := g4.at_ (o := .lst ([.ref t1] ++ acc)) hm
              have g5 := g4.step s5
              have star : TupsAt K (del (del (upd Y m (.lst ([.ref t1] ++ acc))) sp) O) (.ref t1 :: acc) ((n0, n1) :: r.map fun z => (n0, z)) := TupsAt.cons ⟨t1, rfl, SqT.of (g1.up ((s2.trans s23).trans s5) _ _ e1)⟩ ((tac.same del_le).same (g4.up s5))
              generalize upd Y m (.lst ([.ref t1] ++ acc)) = X5 at s5 e5 g5 star ⊢
              have gl : ∀ {Z : Hp}, Same (del (del Z sp) O) Z := Same.trans del_le del_le
              have dstar : Dat ns ((n0, n1) :: r.map fun z => (n0, z)) ws := dat.tr (by
                have := star_tree n0 (n1 :: r) (by rw [← er]; exact dat.good.2)
                rw [er]; exact this)
              refine ⟨_, rfl, .inl ⟨rfl, items, SqL.of g5.w3⟩, _, rfl, m, _, rfl, SqL.of (gl _ _ e5), tups_all (star.same gl), fun ys p6 pm6 hp6 => ?_⟩
              have s6 : Same X5 (upd X5 p6 (.lst ys)) := same_new hp6
              have e6 : upd X5 p6 (.lst ys) p6 = some (.lst ys) := upd_same
              have g6 := g5.step s6
              generalize upd X5 p6 (.lst ys) = X6 at s6 e6 g6 ⊢
              refine ⟨_, rfl, b, _, rfl, SqL.of (g6.get eb), tups_all (tt.same (g6.w2.trans gl)), fun zs p7 pm7 hp7 => ?_⟩
              have s7 : Same X6 (upd X6 p7 (.lst zs)) := same_new hp7
              have e7 : upd X6 p7 (.lst zs) p7 = some (.lst zs) := upd_same
              have g7 := g6.step s7
              generalize upd X6 p7 (.lst zs) = X7 at s7 e7 g7 ⊢
              obtain ⟨fs1, pf1, tf1⟩ := tups_perm pm6 _ (star.same gl)
              obtain ⟨fs2, pf2, tf2⟩ := tups_perm pm7 _ (tt.same (g7.w2.trans gl))
              refine ⟨_, _, dp_dT (SqL.of (s7 _ _ e6)) (tf1.same (s6.trans s7)), dp_dT (SqL.of e7) tf2, sh_dT (fun e he => dstar.okv.t e (pf1.mem_iff.mp he)), sh_dT (fun e he => dat.okv.t e (pf2.mem_iff.mp he)), _, rfl, ite2 (fun _ => ?_) fun _ => ?_⟩
              · refine ⟨_, rfl, _, rfl, _, rfl, (by show 3 ≤ sizeLine; decide), fun t8 ht8 => ⟨(by show 1 ≤ sizeLine; decide), fun LL hLL => ?_⟩⟩
                have s8 : Same X7 (upd X7 t8 (.tup [.ref a, .ref m, .ref c])) := same_new ht8
                have e8 := g7.at_ (o := .tup [.ref a, .ref m, .ref c]) ht8
                have g8 := g7.step s8
                generalize upd X7 t8 (.tup [.ref a, .ref m, .ref c]) = X8 at s8 e8 g8 hLL ⊢
                have s9 : Same X8 (upd X8 LL (.lst [.ref t8])) := same_new hLL
                have eL9 : upd X8 LL (.lst [.ref t8]) LL = some (.lst [.ref t8]) := upd_same
                have g9 := g8.step s9
                generalize upd X8 LL (.lst [.ref t8]) = X9 at s9 eL9 g9 ⊢
                refine ⟨O, LL, items, _, rfl, rfl, g9.w3, eL9, Nat.le_of_lt (small5000 (by simp; omega)), go _ _ ⟨O, items ++ [.ref t8], _, rfl, by simp; omega, g9.put fun v hv => ?_⟩⟩
                simp at hv
                subst hv
                have s59 := ((s6.trans s7).trans s8).trans s9
                exact ⟨t8, ns, _, ws, rfl, ⟨a, m, c, _, g8.up s9 _ _ e8, g9.w2 _ _ ea, g5.up s59 _ _ e5, star.same (g5.up s59), g9.w2 _ _ ec⟩, dstar⟩
              · refine ⟨(by show 0 ≤ sizeLine; decide), fun LL hLL => ?_⟩
                have g9 := g7.step (same_new (o := .lst []) hLL)
                refine ⟨O, LL, items, [], rfl, rfl, g9.w3, upd_same, Nat.le_of_lt (small5000 (by simp; omega)), go _ _ ⟨O, items ++ [], _, rfl, by simp; omega, g9.put fun v hv => by simp at hv⟩⟩
        · refine ⟨_, rfl, b, _, rfl, .inl (SqL.of (g.get eb)), _, _, rfl, rfl, _, rfl, ite2 (fun cc => ?_) (fun _ => go _ _ ⟨O, items, v8, rfl, by omega, g⟩)⟩
          have hn2 : 1 < ts.length := by
            have : (1 : Int) < ts.length := by simpa using cc
            omega
          have c1 : cutV ts (some 1) none = ts.drop 1 := cut_from ts (j := 1) (by omega)
          have c2 : cutV ts none (some 1) = ts.take 1 := cut_to ts (j := 1) (by omega)
          refine ⟨_, rfl, .inl ⟨rfl, items, SqL.of g.w3⟩, _, rfl, _, rfl, _, rfl, b, _, rfl, SqL.of (g.get eb), fun p1 hp1 => ?_⟩
          rw [c1]
          have s1 : Same X (upd X p1 (.lst (ts.drop 1))) := same_new hp1
          have e1 := g.at_ (o := .lst (ts.drop 1)) hp1
          have g1 := g.step s1
          generalize upd X p1 (.lst (ts.drop 1)) = X1 at s1 e1 g1 ⊢
          refine ⟨_, rfl, _, rfl, b, _, rfl, SqL.of (g1.get eb), fun p2 hp2 => ?_⟩
          rw [c2]
          have s2 : Same X1 (upd X1 p2 (.lst (ts.take 1))) := same_new hp2
          have e2 := g1.at_ (o := .lst (ts.take 1)) hp2
          have g2 := g1.step s2
          generalize upd X1 p2 (.lst (ts.take 1)) = X2 at s2 e2 g2 ⊢
          have ttl := tt.1
          refine ⟨p1, p2, _, _, rfl, rfl, del_le _ _ (del_le _ _ (g1.up s2 _ _ e1)), del_le _ _ (del_le _ _ e2), Nat.le_of_lt (small5000 (by simp; omega)), fun p3 hp3 => ?_⟩
          have s3 : Same X2 (upd X2 p3 (.lst (ts.drop 1 ++ ts.take 1))) := same_new hp3
          have e3 := g2.at_ (o := .lst (ts.drop 1 ++ ts.take 1)) hp3
          have g3 := g2.step s3
          generalize upd X2 p3 (.lst (ts.drop 1 ++ ts.take 1)) = X3 at s3 e3 g3 ⊢
          refine ⟨_, rfl, (by show 3 ≤ sizeLine; decide), fun t1 ht1 => ?_⟩
          have s4 : Same X3 (upd X3 t1 (.tup [.ref a, .ref p3, .ref c])) := same_new ht1
          have e4 := g3.at_ (o := .tup [.ref a, .ref p3, .ref c]) ht1
          have g4 := g3.step s4
          generalize upd X3 t1 (.tup [.ref a, .ref p3, .ref c]) = X4 at s4 e4 g4 ⊢
          refine ⟨O, items, _, rfl, rfl, g4.w3, small5000 (by omega), go _ _ ⟨O, items ++ [.ref t1], v8, rfl, by simp; omega, g4.put fun v hv => ?_⟩⟩
          simp at hv
          subst hv
          exact ⟨t1, ns, es.drop 1 ++ es.take 1, ws, rfl, ⟨a, p3, c, _, e4, g4.w2 _ _ ea, g3.up s4 _ _ e3, (((tt.drop 1).app (tt.take 1)).same g4.w2), g4.w2 _ _ ec⟩, dat.tr (dat.tree.rot 1)⟩
      · refine ⟨_, rfl, a, _, rfl, .inl (SqL.of (g.get ea)), _, _, rfl, rfl, _, rfl, ite2 (fun cc => ?_) (fun _ => go _ _ ⟨O, items, v8, rfl, by omega, g⟩)⟩
        have hn2 : 1 < ns.length := by
          have : (1 : Int) < ns.length := by simpa using cc
          omega
        obtain ⟨ei, el, eel⟩ := snoc_of (l := es) (fun z => by rw [z] at ht; simp at ht; omega)
        obtain ⟨ti, tl, etl⟩ := snoc_of (l := ts) (fun z => by have := tt.1; rw [z] at this; simp at this; omega)
        have tt' := tt
        rw [eel, etl] at tt'
        obtain ⟨tti, pl, rfl, hpl⟩ := tt'.last
        refine ⟨_, rfl, .inl ⟨rfl, items, SqL.of g.w3⟩, _, rfl, a, _, rfl, SqL.of (g.get ea), fun p1 hp1 => ?_⟩
        have s1 : Same X (upd X p1 (.lst (ns.map V.str).reverse)) := same_new hp1
        have e1 := g.at_ (o := .lst (ns.map V.str).reverse) hp1
        have g1 := g.step s1
        generalize upd X p1 (.lst (ns.map V.str).reverse) = X1 at s1 e1 g1 ⊢
        refine ⟨_, rfl, _, rfl, (by show 3 ≤ sizeLine; decide), fun t1 ht1 => ?_⟩
        have s2 : Same X1 (upd X1 t1 (.tup [.ref p1, .ref b, .ref c])) := same_new ht1
        have e2 := g1.at_ (o := .tup [.ref p1, .ref b, .ref c]) ht1
        have g2 := g1.step s2
        generalize upd X1 t1 (.tup [.ref p1, .ref b, .ref c]) = X2 at s2 e2 g2 ⊢
        refine ⟨_, rfl, _, rfl, _, rfl, b, _, rfl, SqL.of (g2.get eb), fun p2 hp2 => ?_⟩
        rw [etl, cut_lastA]
        have s3 : Same X2 (upd X2 p2 (.lst ti)) := same_new hp2
        have e3 := g2.at_ (o := .lst ti) hp2
        have g3 := g2.step s3
        generalize upd X2 p2 (.lst ti) = X3 at s3 e3 g3 ⊢
        refine ⟨_, rfl, b, _, _, .ref pl, rfl, rfl, SqL.of (g3.get eb), by rw [etl]; exact atI_last _ _, pl, _, _, rfl, SqT.same (g3.w2.trans (Same.trans del_le del_le)) hpl, fun q1 hq1 => ⟨(by show 1 ≤ sizeLine; decide), fun p3 hp3 => ?_⟩⟩
        have s4 : Same X3 (upd X3 q1 (.tup [.str el.2, .str el.1])) := same_new hq1
        have e4 := g3.at_ (o := .tup [.str el.2, .str el.1]) hq1
        have g4 := g3.step s4
        generalize upd X3 q1 (.tup [.str el.2, .str el.1]) = X4 at s4 e4 g4 hp3 ⊢
        have s5 : Same X4 (upd X4 p3 (.lst [.ref q1])) := same_new hp3
        have e5 := g4.at_ (o := .lst [.ref q1]) hp3
        have g5 := g4.step s5
        generalize upd X4 p3 (.lst [.ref q1]) = X5 at s5 e5 g5 ⊢
        have til : ti.length ≤ 14 := by
          have := tt.1
          rw [etl] at this
          simp at this
          omega
        refine ⟨p2, p3, _, _, rfl, rfl, del_le _ _ (del_le _ _ (g3.up (s4.trans s5) _ _ e3)), del_le _ _ (del_le _ _ e5), Nat.le_of_lt (small5000 (by simp; omega)), fun p4 hp4 => ?_⟩
        have s6 : Same X5 (upd X5 p4 (.lst (ti ++ [.ref q1]))) := same_new hp4
        have e6 := g5.at_ (o := .lst (ti ++ [.ref q1])) hp4
        have g6 := g5.step s6
        generalize upd X5 p4 (.lst (ti ++ [.ref q1])) = X6 at s6 e6 g6 ⊢
        refine ⟨_, rfl, (by show 3 ≤ sizeLine; decide), fun t2 ht2 => ?_⟩
        have s7 : Same X6 (upd X6 t2 (.tup [.ref a, .ref p4, .ref c])) := same_new ht2
        have e7 := g6.at_ (o := .tup [.ref a, .ref p4, .ref c]) ht2
        have g7 := g6.step s7
        generalize upd X6 t2 (.tup [.ref a, .ref p4, .ref c]) = X7 at s7 e7 g7 ⊢
        refine ⟨(by show 2 ≤ sizeLine; decide), fun LL hLL => ?_⟩
        have s8 : Same X7 (upd X7 LL (.lst [.ref t1, .ref t2])) := same_new hLL
        have g8 := g7.step s8
        have eL : upd X7 LL (.lst [.ref t1, .ref t2]) LL = some (.lst [.ref t1, .ref t2]) := upd_same
        generalize upd X7 LL (.lst [.ref t1, .ref t2]) = X8 at s8 g8 eL ⊢
        refine ⟨O, LL, items, _, rfl, rfl, g8.w3, eL, Nat.le_of_lt (small5000 (by simp; omega)), go _ _ ⟨O, items ++ [.ref t1, .ref t2], v8, rfl, by simp; omega, g8.put fun v hv => ?_⟩⟩
        have s28 := ((((s3.trans s4).trans s5).trans s6).trans s7).trans s8
        simp at hv
        rcases hv with rfl | rfl
        · refine ⟨t1, ns.reverse, es, ws, rfl, ⟨p1, b, c, ts, g2.up s28 _ _ e2, ?_, g8.w2 _ _ eb, tt.same g8.w2, g8.w2 _ _ ec⟩, dat.rev⟩
          rw [← List.map_reverse] at e1
          exact g1.up (s2.trans s28) _ _ e1
        · refine ⟨t2, ns, ei ++ [(el.2, el.1)], ws, rfl, ⟨a, p4, c, ti ++ [.ref q1], g7.up s8 _ _ e7, g8.w2 _ _ ea, g6.up (s7.trans s8) _ _ e6, ?_, g8.w2 _ _ ec⟩, dat.tr (by have := dat.tree; rw [eel] at this; exact this.flip)⟩
          exact (tti.same g8.w2).snoc (SqT.of (g4.up (((s5.trans s6).trans s7).trans s8) _ _ e4))
    · have fin : ∀ (X : Hp) (p3 t O : Addr) (v : Int), Same H6 X → H6 t = none → H6 p3 = none → X t = some (.tup [.ref a, .ref b, .ref p3]) → X p3 = some (.lst (wi.map V.int ++ [.int v])) → 1 ≤ v → X O = none → Gw K D.C H sp O x ns es ws (n + 200) [.ref t] (upd X O (.lst [.ref t])) := by
        intro X p3 t O v sX nt np3 et ep3 hv hO
        have sG : Same (del H6 sp) (del (del (upd X O (.lst [.ref t])) sp) O) := fun z o e => by
          have zs : z ≠ sp := fun w0 => by rw [w0, del_same] at e; cases e
          rw [del_ne zs] at e
          have e2 := sX _ _ e
          have zO := ne_of_none e2 hO
          exact del_of zO (del_of zs (by rw [upd_ne zO]; exact e2))
        have new : ∀ {z : Addr} {o : HO}, H6 z = none → X z = some o → del (del (upd X O (.lst [.ref t])) sp) O z = some o := fun {z o} h e => by
          have zO := ne_of_none e hO
          exact del_of zO (del_of (hs6.ne h) (by rw [upd_ne zO]; exact e))
        have sHG := Same.trans f6 sG
        refine ⟨hx6.same sG, sHG, upd_same, fun u hu => ?_, (hs6.same sX).upd (hs6.ne (sX.free hO)), hs6.ne (sX.free hO), frm_free f6 (hs6.ne (sX.free hO)) (sX.free hO)⟩
        simp at hu
        subst hu
        refine ⟨t, ns, es, wi ++ [v], rfl, ⟨a, b, p3, ts, new nt et, sHG _ _ ea, sHG _ _ eb, tt.same sHG, by rw [List.map_append]; exact new np3 ep3⟩, dat.ws (by rw [ew]; simp) fun z hz => ?_⟩
        rcases List.mem_append.mp hz with hz | hz
        · exact dat.w1 z (by rw [ew]; simp [hz])
        · simp at hz; omega
      have lw : ∀ v : V, (wi.map V.int).length + [v].length ≤ sizeLine := fun v => by
        have e : (ws.map V.int).length = ws.length := List.length_map ..
        rw [ecm, List.length_append] at e
        have := Nat.le_of_lt (small5000 (n := ws.length) (by omega))
        simp at e ⊢
        omega
      refine ⟨_, rfl, _, rfl, _, rfl, _, rfl, c, _, rfl, SqL.of (ats f6 ec), fun p hp => ?_⟩
      rw [ecm, cut_lastA]
      have s1 : Same H6 (upd H6 p (.lst (wi.map V.int))) := same_new hp
      have e1 : upd H6 p (.lst (wi.map V.int)) p = some (.lst (wi.map V.int)) := upd_same
      generalize upd H6 p (.lst (wi.map V.int)) = X1 at s1 e1 ⊢
      refine ⟨_, rfl, c, _, _, .int wl, rfl, rfl, SqL.of (s1 _ _ (ats f6 ec)), by rw [ecm]; exact atI_last _ _, _, _, rfl, rfl, _, rfl, ?_⟩
      refine ite2 (fun _ => ?_) (fun _ => ?_)
      all_goals
        refine ⟨(by show 1 ≤ sizeLine; decide), fun p2 hp2 => ?_⟩
        refine ⟨p, p2, _, _, rfl, rfl, by rw [upd_ne (ne_of_none e1 hp2)]; exact e1, upd_same, lw _, fun p3 hp3 => ⟨(by show 3 ≤ sizeLine; decide), fun t ht => ⟨(by show 1 ≤ sizeLine; decide), fun O hO => ?_⟩⟩⟩
        exact go _ _ ⟨O, _, none, rfl, Nat.le_refl _, fin _ p3 t O _ (((s1.trans (same_new hp2)).trans (same_new hp3)).trans (same_new ht)) (((s1.trans (same_new hp2)).trans (same_new hp3)).free ht) ((s1.trans (same_new hp2)).free hp3) upd_same (by rw [upd_ne (ne_of_none upd_same ht)]; exact upd_same) (by decide) hO⟩
end
end HS

set_option maxHeartbeats 4000000
namespace HS
open PySem PySem.Spec L2
theorem op_in_seqK {X : Cx} {K : PySem.W.Frag} (hK : X.K = K) : OpR X (compareOp .In) (rIn K false) := by
  subst hK
  exact op_in_seq
theorem flat_strs (C : List Str) : (C.map V.str).all flatV = true := by simp [flatV]
theorem inV_strs (v : Str) (C : List Str) : inV (.str v) (C.map V.str) = decide (v ∈ C) := by
  unfold inV
  rw [List.any_map]
  induction C with
  | nil => rfl
  | cons x C ih =>
    rw [List.any_cons, ih]
    by_cases h : x = v
    · subst h; simp [eqV]
    · have h' : v ≠ x := fun z => h z.symm
      simp [eqV, h, h']
section
variable {P : Program} {w : World} {K : PySem.W.Frag} {mg : Str → Option Value} {base : Heap} {D : Ads}
def sp_vfr (K : PySem.W.Frag) : Sp := fun vs H Q _ => ∃ (f : Addr) (z : Str) (ns : List Str) (es : Ties) (ws : List Int), vs = [.ref f, .str z] ∧ Form K H f ns es ws ∧ ns.length ≤ 100 ∧ es.length ≤ 100 ∧
  ∀ p H', H p = none → Same H H' → H' p = some (.lst ((ns.filter (adjB es z)).map V.str)) → Q (.ref p) H'
theorem sc_vfr : FnScope ["form", "person", "found", "one", "other", "name"] ["form", "person"] (defScope s_law_v_friends) := ⟨rfl, rfl, rfl, by decide +kernel, rfl, by decide +kernel, by decide +kernel⟩
theorem ok_vfr (T : Txt K mg D) : FnOk P w K mg base CX0 1 D.a_law_v_friends D.d_law_v_friends ["form", "person"] (sp_vfr K) := by
  have nd := sc_vfr.nd
  refine T.F_law_v_friends.ok sc_vfr (fun vs H Q E h => ?_) (fun cdv A outer s H vs Q E hr h => ?_)
  · obtain ⟨f, z, ns, es, ws, rfl, _⟩ := h
    rfl
  · obtain ⟨f, z, ns, es, ws, rfl, ⟨a, b, c, ts, ef, ea, eb, tt, ec⟩, hn, he, q⟩ := h
    refine' ⟨_, pss_cons (ps_set (i := 2) nd rfl (Or.inr rfl) (pe_lst pa_nil))
      (pss_cons (ps_for PassesOwn.never rfl (pi_list (pe_ix ix_tup (pv 0) pe_int (fun _ _ => rfl))) (pg_tup (by rfl) (pgs_cons (pg_name (i := 3) nd rfl (Or.inl rfl)) (pgs_cons (pg_name (i := 4) nd rfl (Or.inl rfl)) pgs_nil)))
        (pss_one (ps_expr (pe_bm PySem.F.plainAttrs_list PySem.F.slot_list_extend PySem.F.type_list_extend mt_extend (pv 2) (pa_cons (pe_op op_cat
          (pe_op op_rep (pe_lst (pa_cons (pv 4) pa_nil)) (pe_callTy call_int1 (by rfl) T.z_int boot_int' (pa_cons (pe_cmpR op_eq (pv 3) (pv 1) (nomark _)) pa_nil)))
          (pe_op op_rep (pe_lst (pa_cons (pv 3) pa_nil)) (pe_callTy call_int1 (by rfl) T.z_int boot_int' (pa_cons (pe_cmpR op_eq (pv 4) (pv 1) (nomark _)) pa_nil)))) pa_nil)))))
      (pss_one (ps_ret (pe_lc (own := [("name", 5)]) (g := gName 5) rfl nd (pi_list (pe_ix ix_tup (pv 0) pe_int (fun _ _ => rfl))) (blkOk_by (N := ["form", "person", "found", "one", "other", "name"]) (sc := defScope s_law_v_friends) (by decide +kernel))
        (fun _ _ _ _ _ => pg_name (i := 5) nd rfl (Or.inl rfl)) (fun _ _ _ _ _ => pts_one (pt_cmpR (op_in_seqK (K := K) rfl) (pv 5) (pv 2) (by rfl))) (fun _ _ _ _ _ => pv 5))))), ?_⟩
    have hsT : ∀ {X : Hp}, Same H X → SqT K X f [.ref a, .ref b, .ref c] := fun s => SqT.of (s _ _ ef)
    refine ⟨(by show 0 ≤ sizeLine; decide), fun l hl => ?_⟩
    refine ⟨_, rfl, f, _, _, .ref b, rfl, rfl, hsT (same_new hl), atI_nat (j := 1) rfl, b, rfl, ⟨_, SqL.of (same_new hl _ _ eb)⟩, ?_⟩
    refine for_it (walk_list (xs := ts)) (fun i σ X => i ≤ es.length ∧ Same H X ∧ (∃ C : List Str, X l = some (.lst (C.map V.str)) ∧ C.length ≤ 2 * i ∧ ∀ v, v ∈ C ↔ adjB (es.take i) z v = true) ∧ ∃ v3 v4, σ = [some (.ref f), some (.str z), some (.ref l), v3, v4, none])
      ⟨Nat.zero_le _, same_new hl, ⟨[], upd_same, Nat.le_refl _, fun v => by simp [adjB]⟩, none, none, rfl⟩ (fun i σ X _ p => SqL.of (p.2.1 _ _ eb)) ?_ ?_
    · rintro i x σ X' X hi ⟨_, sX, ⟨C, eC, lC, hC⟩, v3, v4, rfl⟩ ⟨rfl, hx⟩
      rw [tt.1] at hi
      obtain ⟨e, he'⟩ : ∃ e, es[i]? = some e := ⟨es[i], by simp [hi]⟩
      obtain ⟨p, rfl, hp⟩ := tt.2 i x e hx he'
      refine ⟨p, _, rfl, SqT.same sX hp, rfl, _, _, rfl, _, _, rfl, rfl, ?_⟩
      refine ⟨_, rfl, .inl ⟨rfl, _, SqL.of eC⟩, ?_⟩
      have rep : ∀ (u : Str) (b : Bool), (List.replicate ((if b = true then (1 : Int) else 0)).toNat [V.str u]).flatten = (if b = true then [u] else []).map V.str := fun u b => by cases b <;> rfl
      refine ⟨_, rfl, (by show 1 ≤ sizeLine; decide), fun p1 hp1 => ?_⟩
      have s1 : Same X (upd X p1 (.lst [.str e.2])) := same_new hp1
      have e1 : upd X p1 (.lst [.str e.2]) p1 = some (.lst [.str e.2]) := upd_same
      generalize upd X p1 (.lst [.str e.2]) = X1 at s1 e1 ⊢
      have k2 : ∀ b : Bool, -(2 ^ 63) ≤ (if b = true then (1 : Int) else 0) ∧ (if b = true then (1 : Int) else 0) < 2 ^ 63 ∧ ([V.str e.2] : List V).length * (if b = true then (1 : Int) else 0).toNat ≤ sizeLine := fun b => by
        cases b
        · exact ⟨by decide, by decide, by show 1 * 0 ≤ sizeLine; decide⟩
        · exact ⟨by decide, by decide, by show 1 * 1 ≤ sizeLine; decide⟩
      refine ⟨_, rfl, _, rfl, rfl, .inr ⟨_, rfl, p1, _, _, rfl, rfl, e1, (k2 _).1, (k2 _).2.1, (k2 _).2.2, fun p2 hp2 => ?_⟩⟩
      rw [rep]
      have eb1 : decide (V.str e.1 = V.str z) = decide (e.1 = z) := by simp
      have eb2 : decide (V.str e.2 = V.str z) = decide (e.2 = z) := by simp
      rw [eb1]
      have s2 : Same X1 (upd X1 p2 (.lst ((if decide (e.1 = z) = true then [e.2] else []).map V.str))) := same_new hp2
      have e2 : upd X1 p2 (.lst ((if decide (e.1 = z) = true then [e.2] else []).map V.str)) p2 = some (.lst ((if decide (e.1 = z) = true then [e.2] else []).map V.str)) := upd_same
      generalize upd X1 p2 (.lst ((if decide (e.1 = z) = true then [e.2] else []).map V.str)) = X2 at s2 e2 ⊢
      refine ⟨_, rfl, (by show 1 ≤ sizeLine; decide), fun p3 hp3 => ?_⟩
      have s3 : Same X2 (upd X2 p3 (.lst [.str e.1])) := same_new hp3
      have e3 : upd X2 p3 (.lst [.str e.1]) p3 = some (.lst [.str e.1]) := upd_same
      generalize upd X2 p3 (.lst [.str e.1]) = X3 at s3 e3 ⊢
      refine ⟨_, rfl, _, rfl, rfl, .inr ⟨_, rfl, p3, _, _, rfl, rfl, e3, (k2 _).1, (k2 _).2.1, (k2 _).2.2, fun p4 hp4 => ?_⟩⟩
      rw [rep, eb2]
      have s4 : Same X3 (upd X3 p4 (.lst ((if decide (e.2 = z) = true then [e.1] else []).map V.str))) := same_new hp4
      have e4 : upd X3 p4 (.lst ((if decide (e.2 = z) = true then [e.1] else []).map V.str)) p4 = some (.lst ((if decide (e.2 = z) = true then [e.1] else []).map V.str)) := upd_same
      generalize upd X3 p4 (.lst ((if decide (e.2 = z) = true then [e.1] else []).map V.str)) = X4 at s4 e4 ⊢
      have s24 := s3.trans s4
      generalize hA : (if decide (e.1 = z) = true then [e.2] else []) = A' at e2
      generalize hB : (if decide (e.2 = z) = true then [e.1] else []) = B' at e4
      have lA : A'.length ≤ 1 := by rw [← hA]; split <;> simp
      have lB : B'.length ≤ 1 := by rw [← hB]; split <;> simp
      refine ⟨p2, p4, _, _, rfl, rfl, s24 _ _ e2, e4, Nat.le_of_lt (small5000 (by simp; omega)), fun p5 hp5 => ?_⟩
      have s5 : Same X4 (upd X4 p5 (.lst (A'.map V.str ++ B'.map V.str))) := same_new hp5
      have sXX : Same X (upd X4 p5 (.lst (A'.map V.str ++ B'.map V.str))) := (((s1.trans s2).trans s24)).trans s5
      refine ⟨l, p5, _, _, rfl, rfl, sXX _ _ eC, upd_same, Nat.le_of_lt (small5000 (by simp; omega)), ?_⟩
      refine ⟨hi, same_upd (sX.trans sXX) hl, ⟨C ++ (A' ++ B'), by rw [upd_same]; simp, by simp; omega, fun v => ?_⟩, _, _, rfl⟩
      rw [take_snoc he', adjB_snoc, List.mem_append, hC v, List.mem_append, ← hA, ← hB]
      have q1 : (v = e.2) ↔ (e.2 = v) := eq_comm
      have q2 : (v = e.1) ↔ (e.1 = v) := eq_comm
      clear hA hB e1 e2 e3 e4 eb1 eb2
      generalize e.1 = u1 at q1 q2 ⊢
      generalize e.2 = u2 at q1 q2 ⊢
      by_cases h1 : u1 = z <;> by_cases h2 : u2 = z <;> simp only [h1, h2, decide_true, decide_false, if_true, List.mem_singleton, List.not_mem_nil, Bool.true_and, Bool.false_and, Bool.or_false, Bool.false_or, Bool.or_eq_true, decide_eq_true_eq, or_false, false_or, Bool.false_eq_true, if_false] <;> simp [eq_comm (a := v)]
    · rintro σ X ⟨_, sX, ⟨C, eC, lC, hC⟩, v3, v4, rfl⟩
      rw [tt.1, List.take_length] at hC
      refine ⟨_, rfl, f, _, _, .ref a, rfl, rfl, hsT sX, atI_nat (j := 0) rfl, a, rfl, ⟨_, SqL.of (sX _ _ ea)⟩, fun L hL => ?_⟩
      refine lc_growC (walk_list (xs := ns.map V.str)) (fun j => adjB es z (ns.getD j "")) (fun j => V.str (ns.getD j "")) hL (by rw [List.length_map]; omega) (fun Y sY => SqL.of (sY _ _ (sX _ _ ea))) (fun j y Y0 Y hj sY yy N0 N1 h0 h1 => ?_) fun Y sY eY => ?_
      · obtain ⟨rfl, hy⟩ := yy
        rw [List.length_map] at hj
        have hy' : ns[j]? = some ns[j] := by simp [hj]
        rw [List.getElem?_map, hy'] at hy
        cases hy
        have eg : ns.getD j "" = ns[j] := by rw [List.getD_eq_getElem?_getD, hy']; rfl
        rw [eg] at h0 h1
        refine ⟨rfl, _, rfl, _, rfl, l, _, rfl, .inl (SqL.of (sY _ _ eC)), rfl, flat_strs C, _, rfl, ?_⟩
        show if (if false = true then !inV (V.str ns[j]) (C.map V.str) else inV (V.str ns[j]) (C.map V.str)) = true then _ else _
        rw [inV_strs]
        have eb : decide (ns[j] ∈ C) = adjB es z ns[j] := by
          rw [Bool.eq_iff_iff, decide_eq_true_eq]
          exact hC _
        rw [eb]
        refine ite2 (fun c => ?_) (fun c => ?_)
        · exact ⟨_, rfl, h1 _ (by simpa using c) (Same.refl _)⟩
        · exact h0 _ (by simpa using c) (Same.refl _)
      · rw [List.length_map, range_filter_map] at eY
        exact q L Y (sX.free hL) (sX.trans sY) eY
end
end HS

set_option maxHeartbeats 4000000
namespace HS
open PySem PySem.Spec L2
theorem op_notIn_seqK {X : Cx} {K : PySem.W.Frag} (hK : X.K = K) : OpR X (compareOp .NotIn) (rIn K true) := by
  subst hK
  exact op_notIn_seq
/-! ### the rows that wait -/
def RowV (H : Hp) (v : V) (r : List Str) : Prop := ∃ a, v = .ref a ∧ H a = some (.lst (r.map V.str))
def RowsAt (H : Hp) (vs : List V) (R : List (List Str)) : Prop := vs.length = R.length ∧ ∀ (i : Nat) v r, vs[i]? = some v → R[i]? = some r → RowV H v r
theorem RowsAt.same {H H' : Hp} {vs : List V} {R : List (List Str)} (s : Same H H') (h : RowsAt H vs R) : RowsAt H' vs R := ⟨h.1, fun i v r a b => let ⟨p, e, x⟩ := h.2 i v r a b; ⟨p, e, s _ _ x⟩⟩
theorem RowsAt.app {H : Hp} {vs us : List V} {R S : List (List Str)} (h1 : RowsAt H vs R) (h2 : RowsAt H us S) : RowsAt H (vs ++ us) (R ++ S) := by
  refine ⟨by simp [h1.1, h2.1], fun i v r a b => ?_⟩
  by_cases hi : i < vs.length
  · rw [List.getElem?_append_left hi] at a
    rw [List.getElem?_append_left (by rw [← h1.1]; exact hi)] at b
    exact h1.2 i v r a b
  · rw [List.getElem?_append_right (by omega)] at a
    rw [List.getElem?_append_right (by rw [← h1.1]; omega), ← h1.1] at b
    exact h2.2 _ v r a b
theorem RowsAt.last {H : Hp} {vs : List V} {v : V} {R : List (List Str)} {r : List Str} (h : RowsAt H (vs ++ [v]) (R ++ [r])) : RowsAt H vs R ∧ RowV H v r := by
  have hl : vs.length = R.length := by have := h.1; simpa using this
  refine ⟨⟨hl, fun i v r h1 h2 => h.2 i v r ?_ ?_⟩, h.2 vs.length v r (by simp) (by rw [hl]; simp)⟩
  · rw [List.getElem?_append_left (List.getElem?_eq_some_iff.mp h1).1]; exact h1
  · rw [List.getElem?_append_left (List.getElem?_eq_some_iff.mp h2).1]; exact h2
def wt (r : List Str) : Nat := 16 ^ (16 - r.length)
def wts (R : List (List Str)) : Nat := (R.map wt).sum
theorem wts_app (R S : List (List Str)) : wts (R ++ S) = wts R + wts S := by simp [wts]
theorem wts_more (r : List Str) (F : List Str) (h1 : r.length ≤ 15) (h2 : F.length ≤ 15) : wts (F.map fun x => r ++ [x]) < wt r := by
  have e : wts (F.map fun x => r ++ [x]) = F.length * 16 ^ (15 - r.length) := by
    unfold wts
    rw [List.map_map]
    have : (wt ∘ fun x => r ++ [x]) = fun _ : Str => 16 ^ (15 - r.length) := by
      funext x
      show 16 ^ (16 - (r ++ [x]).length) = _
      rw [List.length_append]
      congr 1
      show 16 - (r.length + 1) = 15 - r.length
      omega
    rw [this]
    clear this h2
    induction F with
    | nil => simp
    | cons a F ih => simp [ih, Nat.add_mul, Nat.add_comm]
  rw [e]
  unfold wt
  have : 16 - r.length = (15 - r.length) + 1 := by omega
  rw [this, Nat.pow_succ]
  have p : 0 < 16 ^ (15 - r.length) := Nat.pow_pos (by decide)
  calc F.length * 16 ^ (15 - r.length) ≤ 15 * 16 ^ (15 - r.length) := Nat.mul_le_mul_right _ h2
    _ < 16 ^ (15 - r.length) * 16 := by omega
theorem adj_nb {es : Ties} {z v : Str} : adjB es z v = true ↔ Nb es z v := by
  unfold adjB Nb
  rw [List.any_eq_true]
  constructor
  · rintro ⟨e, he, h⟩
    simp only [Bool.or_eq_true, Bool.and_eq_true, decide_eq_true_eq] at h
    rcases h with ⟨rfl, rfl⟩ | ⟨rfl, rfl⟩
    · exact .inl he
    · exact .inr he
  · rintro (h | h)
    · exact ⟨_, h, by simp⟩
    · exact ⟨_, h, by simp⟩
theorem nodup_len : ∀ (p ns : List Str), p.Nodup → (∀ z ∈ p, z ∈ ns) → p.length ≤ ns.length
  | [], _, _, _ => Nat.zero_le _
  | z :: p, ns, h, hs => by
    have hz := hs z (by simp)
    obtain ⟨h1, h2⟩ := List.nodup_cons.mp h
    have := nodup_len p (ns.erase z) h2 fun y hy => (List.mem_erase_of_ne (show y ≠ z from fun e => h1 (by rw [← e]; exact hy))).mpr (hs y (by simp [hy]))
    rw [List.length_erase_of_mem hz] at this
    have hp : 0 < ns.length := List.length_pos_of_mem hz
    simp
    omega
theorem way_len {es : Ties} {ns : List Str} {u v : Str} {p : List Str} (h : Way es ns u v p) : p.length ≤ ns.length := nodup_len _ _ h.2.2.1 h.2.2.2.2
theorem chn_take {es : Ties} : ∀ (p : List Str) (k : Nat), Chn es p → Chn es (p.take k)
  | [], k, _ => by simp [Chn]
  | [x], 0, _ => trivial
  | [x], k + 1, _ => by simp [Chn]
  | u :: v :: r, 0, _ => trivial
  | u :: v :: r, 1, _ => trivial
  | u :: v :: r, k + 2, ⟨a, b⟩ => ⟨a, chn_take (v :: r) (k + 1) b⟩
theorem chn_at {es : Ties} : ∀ (p : List Str) (i : Nat) (u v : Str), Chn es p → p[i]? = some u → p[i + 1]? = some v → Nb es u v
  | a :: b :: r, 0, u, v, ⟨h, _⟩, h1, h2 => by cases h1; cases h2; exact h
  | a :: b :: r, i + 1, u, v, ⟨_, h⟩, h1, h2 => chn_at (b :: r) i u v h h1 h2
  | [a], i, u, v, _, _, h2 => by simp at h2
  | [], i, u, v, _, h1, _ => by simp at h1
theorem dep_rows (R : List (List Str)) : PyData.depthAll (R.map dN) ≤ 1 := depthAll_map dN 1 R fun r _ => by
  have h2 := depthAll_map PyData.str 0 r fun _ _ => Nat.le_refl _
  show PyData.depthAll (r.map PyData.str) + 1 ≤ 1; omega
def dR (R : List (List Str)) : PyData := .list (R.map dN)
theorem sh_dR {R : List (List Str)} (h : ∀ r ∈ R, ∀ z ∈ r, OkS z) : SeqAt.shaped (dR R) = true := by
  unfold SeqAt.shaped
  have h1 : (dR R).canLay0 = true := canAll_map dN R fun r hr => SeqAt.canLay_of_shaped (sh_dN (h r hr))
  have h3 : (dR R).depth ≤ 64 := by
    have := dep_rows R
    show PyData.depthAll (R.map dN) + 1 ≤ 64; omega
  rw [h1, decide_eq_true h3]; rfl
theorem eqv_dR0 (R : List (List Str)) : PyData.eqv (dR R) (.list []) = R.isEmpty := by
  cases R <;> rfl
theorem dpAll_rows {K : PySem.W.Frag} {H : Hp} : ∀ (vs : List V) (R : List (List Str)), RowsAt H vs R → DpAll K H vs (R.map dN)
  | [], [], _ => .nil
  | [], _ :: _, h => absurd h.1 (by simp)
  | _ :: _, [], h => absurd h.1 (by simp)
  | v :: vs, r :: R, h => by
    obtain ⟨a, rfl, e⟩ := h.2 0 v r rfl rfl
    exact .cons (dp_dN (SqL.of e)) (dpAll_rows vs R ⟨by have := h.1; simpa using this, fun i x y a b => h.2 (i + 1) x y a b⟩)
section
variable {P : Program} {w : World} {K : PySem.W.Frag} {mg : Str → Option Value} {base : Heap} {D : Ads}
def sp_vway (K : PySem.W.Frag) : Sp := fun vs H Q _ => ∃ (f : Addr) (u v : Str) (ns : List Str) (es : Ties) (ws : List Int), vs = [.ref f, .str u, .str v] ∧ Form K H f ns es ws ∧ Dat ns es ws ∧ u ∈ ns ∧ v ∈ ns ∧
  ∀ p P H', Same H H' → H' p = some (.lst (P.map V.str)) → Way es ns u v P → Q (.ref p) H'
abbrev NW : List Str := ["form", "one", "other", "rows", "row", "friend"]
/-- the search stands: m is its measure -/
def WInv (H : Hp) (f l : Addr) (u v : Str) (ns : List Str) (es : Ties) (p : List Str) (m : Nat) (σ : L2.St) (X : Hp) : Prop := ∃ vs R v4, σ = [some (.ref f), some (.str u), some (.str v), some (.ref l), v4, none] ∧ m = wts R ∧ Same H X ∧ X l = some (.lst vs) ∧ RowsAt (del X l) vs R ∧
  (∀ r ∈ R, ∃ z, Way es ns u z r) ∧ (∀ (i : Nat) r, R[i]? = some r → i < 15 * r.length) ∧ ∃ k, 1 ≤ k ∧ k ≤ p.length ∧ p.take k ∈ R
theorem sc_vway : FnScope NW ["form", "one", "other"] (defScope s_law_v_way) := ⟨rfl, rfl, rfl, by decide +kernel, rfl, by decide +kernel, by decide +kernel⟩
theorem ok_vway (T : Txt K mg D) : FnOk P w K mg base CX0 2 D.a_law_v_way D.d_law_v_way ["form", "one", "other"] (sp_vway K) := by
  have G1 : FnOk P w K mg base CX0 1 D.a_law_v_friends D.d_law_v_friends ["form", "person"] (sp_vfr K) := ok_vfr T
  have nd := sc_vway.nd
  refine T.F_law_v_way.ok sc_vway (fun vs H Q E h => ?_) (fun cdv A outer s H vs Q E hr h => ?_)
  · obtain ⟨f, u, v, ns, es, ws, rfl, _⟩ := h
    rfl
  · obtain ⟨f, u, v, ns, es, ws, rfl, hF, dat, hu, hv, q⟩ := h
    have hun := hr.units
    refine' ⟨_, pss_cons (ps_set (i := 3) nd rfl (Or.inl rfl) (pe_lst (pa_cons (pe_lst (pa_cons (pv 1) pa_nil)) pa_nil)))
      (pss_cons (ps_while PassesOwn.never (pt_cmpR (op_neD hun) (pv 3) (pe_lst pa_nil) (nomark _))
        (pss_cons (ps_set (i := 4) nd rfl (Or.inr rfl) (pe_bm0 PySem.F.plainAttrs_list PySem.F.slot_list_pop PySem.F.type_list_pop mt_pop (pv 3)))
        (pss_cons (ps_if (pt_cmpR op_eq (pe_ix ix_list (pv 4) pe_neg1 (fun _ _ => rfl)) (pv 2) (nomark _)) (pss_one (ps_ret (pv 4))) pss_nil)
        (pss_one (ps_expr (pe_bm PySem.F.plainAttrs_list PySem.F.slot_list_extend PySem.F.type_list_extend mt_extend (pv 3) (pa_cons
          (pe_lc (own := [("friend", 5)]) (g := gName 5) rfl nd (pi_list (pe_call G1 hr rfl T.g_law_v_friends T.F_law_v_friends.kp T.b_law_v_friends .nil pass0 (pa_cons (pv 0) (pa_cons (pe_ix ix_list (pv 4) pe_neg1 (fun _ _ => rfl)) pa_nil)))) (blkOk_by (N := NW) (sc := defScope s_law_v_way) (by decide +kernel))
            (fun _ _ _ _ _ => pg_name (i := 5) nd rfl (Or.inl rfl)) (fun _ _ _ _ _ => pts_one (pt_cmpR (op_notIn_seqK (K := K) rfl) (pv 5) (pv 4) (by rfl))) ?inner) pa_nil)))))))
      (pss_one (ps_ret (pe_lst pa_nil)))), ?_⟩
    case inner => exact fun _ _ _ _ _ => pe_op op_cat (pv 4) (pe_lst (pa_cons (pv 5) pa_nil))
    obtain ⟨p, hp⟩ := dat.tree.cn u v hu hv
    have nl := dat.len
    refine ⟨_, rfl, (by show 1 ≤ sizeLine; decide), fun a0 ha0 => ⟨(by show 1 ≤ sizeLine; decide), fun l hl => ?_⟩⟩
    have s1 : Same H (upd (upd H a0 (.lst [.str u])) l (.lst [.ref a0])) := Same.new' (same_new ha0) hl
    have al : a0 ≠ l := ne_of_none upd_same hl
    have hlH : H l = none := by rw [upd_ne al.symm] at hl; exact hl
    have p1 : p.take 1 = [u] := by
      have := hp.1
      cases p with
      | nil => simp at this
      | cons x r => simp at this; simp [this]
    have p0 : 1 ≤ p.length := by
      have := hp.1
      cases p with
      | nil => simp at this
      | cons x r => simp
    refine ⟨WInv H f l u v ns es p, ⟨_, [.ref a0], [[u]], none, rfl, rfl, s1, upd_same, ⟨rfl, fun i x r h1 h2 => ?_⟩, fun r hr => ?_, fun i r h => ?_, 1, Nat.le_refl _, p0, by rw [p1]; simp⟩, ?_⟩
    · match i, h1, h2 with
      | 0, h1, h2 => cases h1; cases h2; exact ⟨a0, rfl, del_of al (by rw [upd_ne al]; exact upd_same)⟩
      | i + 1, h1, h2 => simp at h1
    · simp at hr
      subst hr
      exact ⟨u, rfl, rfl, by simp, trivial, fun z hz => by simp at hz; subst hz; exact hu⟩
    · match i, h with
      | 0, h => cases h; show 0 < 15 * 1; decide
      | i + 1, h => simp at h
    rintro m σ X ⟨vs, R, v4, rfl, rfl, sX, el, hR, hw, hpos, k, k1, k2, hk⟩
    have Rne : R ≠ [] := fun z => by rw [z] at hk; simp at hk
    have okr : ∀ r ∈ R, ∀ z ∈ r, OkS z := fun r hr z hz => by
      obtain ⟨y, hy⟩ := hw r hr
      exact dat.ok z (hy.2.2.2.2 z hz)
    refine ⟨_, rfl, (by show 0 ≤ sizeLine; decide), fun e he => ?_⟩
    have sXe : Same X (upd X e (.lst [])) := same_new he
    have ee : upd X e (.lst []) e = some (.lst []) := upd_same
    refine ⟨dR R, .list [], .lst (SqL.of (sXe _ _ el)) (dpAll_rows vs R ((hR.same del_le).same sXe)), .lst (SqL.of ee) .nil, sh_dR okr, by decide +kernel, _, rfl, ?_⟩
    rw [eqv_dR0, show R.isEmpty = false by cases R with | nil => exact absurd rfl Rne | cons _ _ => rfl]
    refine iteT ⟨fun σ' H' => ∃ m', m' < wts R ∧ WInv H f l u v ns es p m' σ' H', fun _ _ h => h, ?_⟩
    have el1 := sXe _ _ el
    have sX1 := sX.trans sXe
    have hR1 : RowsAt (del (upd X e (.lst [])) l) vs R := hR.same (same_del sXe)
    generalize upd X e (.lst []) = X1 at sX1 el1 hR1 ⊢
    obtain ⟨R', r, eR⟩ := snoc_of Rne
    obtain ⟨vs', y, evs⟩ := snoc_of (l := vs) (fun z => by have := hR1.1; rw [z, eR] at this; simp at this)
    subst eR evs
    obtain ⟨hR', ra, rfl, era⟩ := hR1.last
    have ral : ra ≠ l := fun z => by rw [z, del_same] at era; cases era
    rw [del_ne ral] at era
    obtain ⟨z, hz⟩ := hw r (by simp)
    obtain ⟨r0, z', er⟩ := snoc_of (l := r) (fun w0 => by have := hz.1; rw [w0] at this; simp at this)
    have ez : z' = z := by have := hz.2.1; rw [er] at this; simpa using this
    rw [ez] at er
    have erm : r.map V.str = r0.map V.str ++ [V.str z] := by rw [er, List.map_append]; rfl
    have rl := way_len hz
    refine ⟨_, rfl, .inl ⟨rfl, _, SqL.of el1⟩, l, _, .ref ra, rfl, rfl, el1, by simp, ?_⟩
    rw [List.dropLast_concat]
    have s2 : ∀ {b : Addr} {o : HO}, b ≠ l → X1 b = some o → upd X1 l (.lst vs') b = some o := fun n e => by rw [upd_ne n]; exact e
    have era2 : upd X1 l (.lst vs') ra = some (.lst (r.map V.str)) := s2 ral era
    have el2 : upd X1 l (.lst vs') l = some (.lst vs') := upd_same
    have sX2 : Same H (upd X1 l (.lst vs')) := same_upd sX1 hlH
    have hR2 : RowsAt (del (upd X1 l (.lst vs')) l) vs' R' := by rw [del_upd_same]; exact hR'
    generalize upd X1 l (.lst vs') = X2 at era2 el2 sX2 hR2 ⊢
    refine ⟨_, rfl, ra, _, _, .str z, rfl, rfl, SqL.of era2, by rw [erm]; exact atI_last _ _, _, rfl, rfl, _, rfl, ite2 (fun c => ?_) (fun c => ?_)⟩
    · have c' : z = v := by simpa using c
      exact ⟨_, rfl, q ra r X2 sX2 era2 (c' ▸ hz)⟩
    · have c' : ¬ z = v := by simpa using c
      have hz15 : r.length ≤ 15 := by omega
      let F0 := ns.filter (adjB es z)
      have hF0 : F0.length ≤ 15 := Nat.le_trans (List.length_filter_le _ _) nl
      refine ⟨_, rfl, .inl ⟨rfl, _, SqL.of el2⟩, _, rfl, _, rfl, ra, _, _, .str z, rfl, rfl, SqL.of era2, by rw [erm]; exact atI_last _ _, f, z, ns, es, ws, rfl, hF.same sX2, by omega, by have := dat.tree.len; omega, fun p9 X3 hp9 s23 e9 => ⟨p9, rfl, ⟨_, SqL.of e9⟩, fun L hL => ?_⟩⟩
      have sX3 := sX2.trans s23
      have el3 := s23 _ _ el2
      have Ll : L ≠ l := (ne_of_none el3 hL).symm
      refine lc_it (walk_list (xs := F0.map V.str)) (fun j Y => j ≤ F0.length ∧ Same X3 Y ∧ ∃ acc, Y L = some (.lst acc) ∧ RowsAt (del (del Y l) L) acc (((F0.take j).filter fun x => decide (x ∉ r)).map fun x => r ++ [x])) ⟨Nat.zero_le _, same_new hL, [], upd_same, rfl, fun i v e h => by simp at h⟩ (fun j Y _ pv => SqL.of (pv.2.1 _ _ e9)) (fun j x Y0 Y hj pv yy => ?_) fun Y pv => ?_
      · obtain ⟨rfl, hx⟩ := yy
        obtain ⟨_, sY, acc, eL, hacc⟩ := pv
        rw [List.length_map] at hj
        rw [List.getElem?_map] at hx
        obtain ⟨t, ht, rfl⟩ := Option.map_eq_some_iff.mp hx
        have eraY : Y ra = some (.lst (r.map V.str)) := sY _ _ (s23 _ _ era2)
        have accl : acc.length ≤ 15 := by
          rw [hacc.1, List.length_map]
          exact Nat.le_trans (List.length_filter_le _ _) (by rw [List.length_take]; omega)
        refine ⟨rfl, _, rfl, _, rfl, ra, _, rfl, .inl (SqL.of eraY), rfl, flat_strs r, _, rfl, ?_⟩
        show if (if true = true then !inV (V.str t) (r.map V.str) else inV (V.str t) (r.map V.str)) = true then _ else _
        rw [inV_strs]
        refine ite2 (fun cc => ?_) (fun cc => ?_)
        · have tn : t ∉ r := by simpa using cc
          refine ⟨_, rfl, _, rfl, (by show 1 ≤ sizeLine; decide), fun q1 hq1 => ?_⟩
          have sq : Same Y (upd Y q1 (.lst [.str t])) := same_new hq1
          have eq1 : upd Y q1 (.lst [.str t]) q1 = some (.lst [.str t]) := upd_same
          generalize upd Y q1 (.lst [.str t]) = Y1 at sq eq1 ⊢
          refine ⟨ra, q1, _, _, rfl, rfl, sq _ _ eraY, eq1, Nat.le_of_lt (small5000 (by simp; omega)), fun q2 hq2 => ?_⟩
          have sq2 : Same Y1 (upd Y1 q2 (.lst (r.map V.str ++ [.str t]))) := same_new hq2
          have eL2 := sq2 _ _ (sq _ _ eL)
          have Lq : q2 ≠ L := fun w0 => by rw [w0, sq _ _ eL] at hq2; cases hq2
          have lq : q2 ≠ l := fun w0 => by rw [w0, sq _ _ (sY _ _ el3)] at hq2; cases hq2
          have eq2 : upd Y1 q2 (.lst (r.map V.str ++ [.str t])) q2 = some (.lst ((r ++ [t]).map V.str)) := by rw [upd_same, List.map_append]; rfl
          generalize upd Y1 q2 (.lst (r.map V.str ++ [.str t])) = Y2 at sq2 eL2 eq2 ⊢
          refine ⟨acc, eL2, small5000 (by omega), hj, same_upd ((sY.trans sq).trans sq2) hL, acc ++ [.ref q2], upd_same, ?_⟩
          have ee : del (del (upd Y2 L (.lst (acc ++ [.ref q2]))) l) L = del (del Y2 l) L := del_del_upd Ll
          rw [ee, take_snoc ht, List.filter_append, List.map_append]
          have ef : [t].filter (fun x => decide (x ∉ r)) = [t] := by simp [tn]
          rw [ef]
          refine (hacc.same (same_del (same_del (sq.trans sq2)))).app ⟨rfl, fun i v rr a b => ?_⟩
          match i, a, b with
          | 0, a, b => cases a; cases b; exact ⟨q2, rfl, del_of Lq (del_of lq eq2)⟩
          | i + 1, a, b => simp at a
        · have tn : t ∈ r := by simpa using cc
          refine ⟨hj, sY, acc, eL, ?_⟩
          rw [take_snoc ht, List.filter_append, List.map_append]
          have ef : [t].filter (fun x => decide (x ∉ r)) = [] := by simp [tn]
          rw [ef]
          simpa using hacc
      · obtain ⟨_, sY, acc, eL, hacc⟩ := pv
        rw [List.length_map, List.take_length] at hacc
        have elY := sY _ _ el3
        have Fl : (F0.filter fun x => decide (x ∉ r)).length ≤ 15 := Nat.le_trans (List.length_filter_le _ _) hF0
        have Rl : R'.length ≤ 225 := by
          have := hpos R'.length r (by simp)
          omega
        have accl : acc.length ≤ 15 := by rw [hacc.1, List.length_map]; exact Fl
        refine ⟨l, L, vs', acc, rfl, rfl, elY, eL, Nat.le_of_lt (small5000 (by rw [hR2.1]; omega)), ?_⟩
        refine ⟨_, ?_, vs' ++ acc, R' ++ (F0.filter fun x => decide (x ∉ r)).map (fun x => r ++ [x]), _, rfl, rfl, same_upd (sX3.trans sY) hlH, upd_same, ?_, fun s hs => ?_, fun i s hs => ?_, ?_⟩
        · rw [wts_app, wts_app]
          have := wts_more r (F0.filter fun x => decide (x ∉ r)) hz15 Fl
          have e1 : wts [r] = wt r := by simp [wts]
          omega
        · rw [del_upd_same]
          exact (hR2.same (same_del (s23.trans sY))).app (hacc.same del_le)
        · rcases List.mem_append.mp hs with hs | hs
          · exact hw s (by simp [hs])
          · obtain ⟨x, hx, rfl⟩ := List.mem_map.mp hs
            obtain ⟨hx1, hx2⟩ := List.mem_filter.mp hx
            obtain ⟨hx3, hx4⟩ := List.mem_filter.mp hx1
            exact ⟨x, hz.snoc (adj_nb.mp hx4) (by simpa using hx2) hx3⟩
        · by_cases hi : i < R'.length
          · rw [List.getElem?_append_left hi] at hs
            exact hpos i s (by rw [List.getElem?_append_left hi]; exact hs)
          · rw [List.getElem?_append_right (by omega)] at hs
            have h1 := (List.getElem?_eq_some_iff.mp hs).1
            rw [List.length_map] at h1
            obtain ⟨x, hx, rfl⟩ := List.mem_map.mp (List.mem_of_getElem? hs)
            have h2 := hpos R'.length r (by simp)
            simp
            omega
        · rcases List.mem_append.mp hk with hk | hk
          · exact ⟨k, k1, k2, by simp [hk]⟩
          · have hk : p.take k = r := by simpa using hk
            have kl : k < p.length := by
              refine Nat.lt_of_le_of_ne k2 fun w0 => c' ?_
              rw [w0, List.take_length] at hk
              have h1 := hp.2.1
              rw [hk, hz.2.1] at h1
              exact Option.some.inj h1
            refine ⟨k + 1, by omega, kl, List.mem_append_right _ (List.mem_map.mpr ⟨p[k], List.mem_filter.mpr ⟨List.mem_filter.mpr ⟨hp.2.2.2.2 _ (List.getElem_mem kl), adj_nb.mpr ?_⟩, ?_⟩, ?_⟩)⟩
            · refine chn_at p (k - 1) z p[k] hp.2.2.2.1 ?_ (by rw [show k - 1 + 1 = k by omega]; simp [kl])
              have h1 := hz.2.1
              rw [← hk, List.getLast?_eq_getElem?, List.length_take, List.getElem?_take] at h1
              rw [if_pos (by omega)] at h1
              rw [show min k p.length = k by omega] at h1
              exact h1
            · rw [← hk]
              have := hp.2.2.1
              have h2 : (p.take k ++ [p[k]]).Nodup := by
                rw [← take_snoc (show p[k]? = some p[k] by simp [kl])]
                exact this.sublist (List.take_sublist _ _)
              have h3 := (List.nodup_append.mp h2).2.2
              simp only [decide_eq_true_eq]
              exact fun m => h3 _ m _ (by simp) rfl
            · rw [← hk]
              exact (take_snoc (show p[k]? = some p[k] by simp [kl])).symm
end
end HS

set_option maxHeartbeats 4000000
namespace HS
open PySem PySem.Spec L2
/-! ### heaps whose tables of code may grow -/
def noT (H : Hp) : Hp := fun b => match H b with | some (.tbl _) => none | o => o
theorem noT_of {H : Hp} {b : Addr} {o : HO} (e : H b = some o) (n : ∀ ps, o ≠ .tbl ps) : noT H b = some o := by
  unfold noT
  rw [e]
  cases o <;> first | rfl | exact absurd rfl (n _)
theorem noT_in {H : Hp} {b : Addr} {o : HO} (e : noT H b = some o) : H b = some o ∧ ∀ ps, o ≠ .tbl ps := by
  unfold noT at e
  cases h : H b with
  | none => rw [h] at e; cases e
  | some u =>
    rw [h] at e
    cases u <;> first | (cases e; exact ⟨rfl, fun ps z => by cases z⟩) | cases e
theorem noT_le {H : Hp} : Same (noT H) H := fun b o e => (noT_in e).1
theorem noT_same {H H' : Hp} (s : Same H H') : Same (noT H) (noT H') := fun b o e => noT_of (s _ _ (noT_in e).1) (noT_in e).2
/-- no name beside n0 -/
def OddN (K : PySem.W.Frag) (H : Hp) (n0 : Str) (v : V) : Prop := ∃ k, TyK K H v k ∧ (k ≠ .str ∨ ∃ z, v = .str z ∧ z.length ≤ 1000 ∧ (nameB z = false ∨ z = n0))
theorem OddN.same {K : PySem.W.Frag} {H H' : Hp} {n0 : Str} {v : V} (s : Same H H') (h : OddN K H n0 v) : OddN K H' n0 v := let ⟨k, t, r⟩ := h; ⟨k, t.ext s, r⟩
/-- no tie of anybody but n0 -/
def OddT (K : PySem.W.Frag) (H : Hp) (n0 : Str) (v : V) : Prop := (∃ k, TyK K H v k ∧ isLT k = false) ∨ (∃ a xs, v = .ref a ∧ SeqV K H a xs ∧ xs.length ≠ 2) ∨
  ∃ a x y k l, v = .ref a ∧ SeqV K H a [x, y] ∧ TyK K H x k ∧ TyK K H y l ∧ ((∀ z, x ≠ .str z) ∨ (∀ z, y = .str z → z = "nobody") ∨ (x = .str n0 ∧ y = .str n0))
theorem OddT.same {K : PySem.W.Frag} {H H' : Hp} {n0 : Str} {b : V} (s : Same H H') (h : OddT K H n0 b) : OddT K H' n0 b := by
  rcases h with ⟨k, t, e⟩ | ⟨a, xs, e, q, n⟩ | ⟨a, x, y, k, l, e, q, t1, t2, r⟩
  · exact .inl ⟨k, t.ext s, e⟩
  · exact .inr (.inl ⟨a, xs, e, q.same s, n⟩)
  · exact .inr (.inr ⟨a, x, y, k, l, e, q.same s, t1.ext s, t2.ext s, r⟩)
section
variable {P : Program} {w : World} {K : PySem.W.Frag} {mg : Str → Option Value} {base : Heap} {D : Ads}
def sp_oddp (K : PySem.W.Frag) : Sp := fun vs H Q _ => ∃ (a : Addr) (n0 : Str) (r : List Str), vs = [.ref a] ∧ SqL K H a ((n0 :: r).map V.str) ∧ n0.length ≤ 1000 ∧
  ∀ p items H', H p = none → Same H H' → H' p = some (.lst items) → items.length ≤ 20 → (∀ v ∈ items, OddN K (noT (fr H H')) n0 v) → Q (.ref p) H'
theorem sc_oddp : FnScope ["names"] ["names"] (defScope s_law_odd_people) := ⟨rfl, rfl, rfl, by decide +kernel, rfl, by decide +kernel, by decide +kernel⟩
theorem ok_oddp (T : Txt K mg D) : FnOk P w K mg base CX0 1 D.a_law_odd_people D.d_law_odd_people ["names"] (sp_oddp K) := by
  refine T.F_law_odd_people.ok sc_oddp (fun vs H Q E h => ?_) (fun cdv A outer s H vs Q E hr h => ?_)
  · obtain ⟨a, n0, r, rfl, _⟩ := h
    rfl
  · obtain ⟨a, n0, r, rfl, ha, hl, q⟩ := h
    refine ⟨_, pss_one (ps_ret (pe_lst (pa_cons pe_non (pa_cons pe_int (pa_cons pe_bl (pa_cons pe_str (pa_cons pe_str (pa_cons pe_str (pa_cons pe_str (pa_cons pe_str (pa_cons pe_str (pa_cons pe_str
      (pa_cons (pe_lst (pa_cons pe_str pa_nil)) (pa_cons (pe_tup (pa_cons pe_str pa_nil)) (pa_cons pe_dnewK (pa_cons (pe_ix ix_list (pv 0) pe_int (fun _ _ => rfl)) (pa_cons pe_str pa_nil))))))))))))))))), ?_⟩
    refine ⟨(by show 1 ≤ sizeLine; decide), fun p1 h1 => ⟨(by show 1 ≤ sizeLine; decide), fun p2 h2 => fun p3 h3 => ?_⟩⟩
    have s1 : Same H (upd H p1 (.lst [.str "a"])) := same_new h1
    have e1 : upd H p1 (.lst [.str "a"]) p1 = some (.lst [.str "a"]) := upd_same
    generalize upd H p1 (.lst [.str "a"]) = H1 at s1 e1 h2 h3 ⊢
    have s2 : Same H1 (upd H1 p2 (.tup [.str "a"])) := same_new h2
    have e2 : upd H1 p2 (.tup [.str "a"]) p2 = some (.tup [.str "a"]) := upd_same
    generalize upd H1 p2 (.tup [.str "a"]) = H2 at s2 e2 h3 ⊢
    have s3 : Same H2 (upd H2 p3 (.dK [])) := same_new h3
    have e3 : upd H2 p3 (.dK []) p3 = some (.dK []) := upd_same
    generalize upd H2 p3 (.dK []) = H3 at s3 e3 ⊢
    have s13 := (s1.trans s2).trans s3
    refine ⟨_, rfl, a, _, _, .str n0, rfl, rfl, s13.seq ha, atI_nat (j := 0) rfl, (by show 15 ≤ sizeLine; decide), fun p hp => ?_⟩
    have s4 : Same H3 (upd H3 p (.lst [.non, .int 5, .bl true, .str "", .str "A", .str "aB", .str "1a", .str "a_b", .str "a b", .str "ninesigns", .ref p1, .ref p2, .ref p3, .str n0, .str "a-"])) := same_new hp
    refine q p _ _ (s13.free hp) (s13.trans s4) upd_same (by simp) fun v hv => ?_
    have bad : ∀ {G : Hp} (z : Str), z.length ≤ 1000 → nameB z = false → OddN K G n0 (.str z) := fun z h1 h2 => ⟨.str, .str z, .inr ⟨z, rfl, h1, .inl h2⟩⟩
    have g : ∀ {x : Addr} {o : HO}, H x = none → H3 x = some o → (∀ ps, o ≠ .tbl ps) → noT (fr H (upd H3 p (.lst [.non, .int 5, .bl true, .str "", .str "A", .str "aB", .str "1a", .str "a_b", .str "a b", .str "ninesigns", .ref p1, .ref p2, .ref p3, .str n0, .str "a-"]))) x = some o := fun a b c => noT_of (fr_get a (s4 _ _ b)) c
    simp only [List.mem_cons, List.not_mem_nil, or_false] at hv
    rcases hv with rfl | rfl | rfl | rfl | rfl | rfl | rfl | rfl | rfl | rfl | rfl | rfl | rfl | rfl | rfl
    · exact ⟨.non, .non, .inl (by decide)⟩
    · exact ⟨.int, .int _, .inl (by decide)⟩
    · exact ⟨.bl, .bl _, .inl (by decide)⟩
    · exact bad _ (by decide +kernel) (by decide +kernel)
    · exact bad _ (by decide +kernel) (by decide +kernel)
    · exact bad _ (by decide +kernel) (by decide +kernel)
    · exact bad _ (by decide +kernel) (by decide +kernel)
    · exact bad _ (by decide +kernel) (by decide +kernel)
    · exact bad _ (by decide +kernel) (by decide +kernel)
    · exact bad _ (by decide +kernel) (by decide +kernel)
    · exact ⟨.lst, TyK.seqL (SqL.of (g h1 (s3 _ _ (s2 _ _ e1)) (fun ps z => by cases z))), .inl (by decide)⟩
    · exact ⟨.tup, TyK.seqT (SqT.of (g (s1.free h2) (s3 _ _ e2) (fun ps z => by cases z))), .inl (by decide)⟩
    · exact ⟨.dct, TyK.dK (g ((s1.trans s2).free h3) e3 (fun ps z => by cases z)), .inl (by decide)⟩
    · exact ⟨.str, .str _, .inr ⟨n0, rfl, hl, .inr rfl⟩⟩
    · exact bad _ (by decide +kernel) (by decide +kernel)
def sp_oddt (K : PySem.W.Frag) : Sp := fun vs H Q _ => ∃ (a : Addr) (n0 : Str) (r : List Str), vs = [.ref a] ∧ SqL K H a ((n0 :: r).map V.str) ∧
  ∀ p items H', H p = none → Same H H' → H' p = some (.lst items) → items.length ≤ 20 → (∀ v ∈ items, OddT K (noT (fr H H')) n0 v) → Q (.ref p) H'
theorem sc_oddt : FnScope ["names", "one"] ["names"] (defScope s_law_odd_ties) := ⟨rfl, rfl, rfl, by decide +kernel, rfl, by decide +kernel, by decide +kernel⟩
theorem ok_oddt (T : Txt K mg D) : FnOk P w K mg base CX0 1 D.a_law_odd_ties D.d_law_odd_ties ["names"] (sp_oddt K) := by
  have nd := sc_oddt.nd
  refine T.F_law_odd_ties.ok sc_oddt (fun vs H Q E h => ?_) (fun cdv A outer s H vs Q E hr h => ?_)
  · obtain ⟨a, n0, r, rfl, _⟩ := h
    rfl
  · obtain ⟨a, n0, r, rfl, ha, q⟩ := h
    refine ⟨_, pss_cons (ps_set (i := 1) nd rfl (Or.inl rfl) (pe_ix ix_list (pv 0) pe_int (fun _ _ => rfl)))
      (pss_one (ps_ret (pe_lst (pa_cons pe_non (pa_cons pe_int (pa_cons (pv 1) (pa_cons (pe_tup (pa_cons (pv 1) pa_nil)) (pa_cons (pe_tup (pa_cons (pv 1) (pa_cons (pv 1) pa_nil))) (pa_cons (pe_tup (pa_cons (pv 1) (pa_cons pe_str pa_nil))) (pa_cons (pe_tup (pa_cons pe_non (pa_cons (pv 1) pa_nil)))
        (pa_cons (pe_tup (pa_cons (pv 1) (pa_cons (pe_lst (pa_cons (pv 1) pa_nil)) pa_nil))) (pa_cons pe_dnewK (pa_cons (pe_tup (pa_cons (pv 1) (pa_cons (pv 1) (pa_cons (pv 1) pa_nil)))) (pa_cons (pe_lst pa_nil) pa_nil)))))))))))))), ?_⟩
    refine ⟨_, rfl, a, _, _, .str n0, rfl, rfl, ha, atI_nat (j := 0) rfl, ?_⟩
    refine ⟨_, rfl, _, rfl, (by show 1 ≤ sizeLine; decide), fun p1 h1 => ?_⟩
    have s1 : Same H (upd H p1 (.tup [.str n0])) := same_new h1
    have e1 : upd H p1 (.tup [.str n0]) p1 = some (.tup [.str n0]) := upd_same
    generalize upd H p1 (.tup [.str n0]) = H1 at s1 e1 ⊢
    refine ⟨_, rfl, _, rfl, (by show 2 ≤ sizeLine; decide), fun p2 h2 => ?_⟩
    have s2 : Same H1 (upd H1 p2 (.tup [.str n0, .str n0])) := same_new h2
    have e2 : upd H1 p2 (.tup [.str n0, .str n0]) p2 = some (.tup [.str n0, .str n0]) := upd_same
    generalize upd H1 p2 (.tup [.str n0, .str n0]) = H2 at s2 e2 ⊢
    refine ⟨_, rfl, (by show 2 ≤ sizeLine; decide), fun p3 h3 => ?_⟩
    have s3 : Same H2 (upd H2 p3 (.tup [.str n0, .str "nobody"])) := same_new h3
    have e3 : upd H2 p3 (.tup [.str n0, .str "nobody"]) p3 = some (.tup [.str n0, .str "nobody"]) := upd_same
    generalize upd H2 p3 (.tup [.str n0, .str "nobody"]) = H3 at s3 e3 ⊢
    refine ⟨_, rfl, (by show 2 ≤ sizeLine; decide), fun p4 h4 => ?_⟩
    have s4 : Same H3 (upd H3 p4 (.tup [.non, .str n0])) := same_new h4
    have e4 : upd H3 p4 (.tup [.non, .str n0]) p4 = some (.tup [.non, .str n0]) := upd_same
    generalize upd H3 p4 (.tup [.non, .str n0]) = H4 at s4 e4 ⊢
    refine ⟨_, rfl, _, rfl, (by show 1 ≤ sizeLine; decide), fun p5 h5 => ⟨(by show 2 ≤ sizeLine; decide), fun p6 h6 => fun p7 h7 => ?_⟩⟩
    have s5 : Same H4 (upd H4 p5 (.lst [.str n0])) := same_new h5
    have e5 : upd H4 p5 (.lst [.str n0]) p5 = some (.lst [.str n0]) := upd_same
    generalize upd H4 p5 (.lst [.str n0]) = H5 at s5 e5 h6 h7 ⊢
    have s6 : Same H5 (upd H5 p6 (.tup [.str n0, .ref p5])) := same_new h6
    have e6 : upd H5 p6 (.tup [.str n0, .ref p5]) p6 = some (.tup [.str n0, .ref p5]) := upd_same
    generalize upd H5 p6 (.tup [.str n0, .ref p5]) = H6 at s6 e6 h7 ⊢
    have s7 : Same H6 (upd H6 p7 (.dK [])) := same_new h7
    have e7 : upd H6 p7 (.dK []) p7 = some (.dK []) := upd_same
    generalize upd H6 p7 (.dK []) = H7 at s7 e7 ⊢
    refine ⟨_, rfl, _, rfl, _, rfl, (by show 3 ≤ sizeLine; decide), fun p8 h8 => ⟨(by show 0 ≤ sizeLine; decide), fun p9 h9 => ⟨(by show 11 ≤ sizeLine; decide), fun p hp => ?_⟩⟩⟩
    have s8 : Same H7 (upd H7 p8 (.tup [.str n0, .str n0, .str n0])) := same_new h8
    have e8 : upd H7 p8 (.tup [.str n0, .str n0, .str n0]) p8 = some (.tup [.str n0, .str n0, .str n0]) := upd_same
    generalize upd H7 p8 (.tup [.str n0, .str n0, .str n0]) = H8 at s8 e8 h9 hp ⊢
    have s9 : Same H8 (upd H8 p9 (.lst [])) := same_new h9
    have e9 : upd H8 p9 (.lst []) p9 = some (.lst []) := upd_same
    generalize upd H8 p9 (.lst []) = H9 at s9 e9 hp ⊢
    have t8 := s8.trans s9
    have t7 := s7.trans t8
    have t6 := s6.trans t7
    have t5 := s5.trans t6
    have t4 := s4.trans t5
    have t3 := s3.trans t4
    have t2 := s2.trans t3
    have t1 := s1.trans t2
    have sl : Same H9 (upd H9 p (.lst [.non, .int 5, .str n0, .ref p1, .ref p2, .ref p3, .ref p4, .ref p6, .ref p7, .ref p8, .ref p9])) := same_new hp
    refine q p _ _ (t1.free hp) (t1.trans sl) upd_same (by simp) fun v hv => ?_
    have g : ∀ {x : Addr} {o : HO}, H x = none → H9 x = some o → (∀ ps, o ≠ .tbl ps) → noT (fr H (upd H9 p (.lst [.non, .int 5, .str n0, .ref p1, .ref p2, .ref p3, .ref p4, .ref p6, .ref p7, .ref p8, .ref p9]))) x = some o := fun a b c => noT_of (fr_get a (sl _ _ b)) c
    have z1 := s1.trans s2
    have z2 := z1.trans s3
    have z3 := z2.trans s4
    have z4 := z3.trans s5
    have z5 := z4.trans s6
    have z6 := z5.trans s7
    have z7 := z6.trans s8
    simp only [List.mem_cons, List.not_mem_nil, or_false] at hv
    rcases hv with rfl | rfl | rfl | rfl | rfl | rfl | rfl | rfl | rfl | rfl | rfl
    · exact .inl ⟨.non, .non, rfl⟩
    · exact .inl ⟨.int, .int _, rfl⟩
    · exact .inl ⟨.str, .str _, rfl⟩
    · exact .inr (.inl ⟨p1, _, rfl, .inr (SqT.of (g h1 (t2 _ _ e1) (fun ps z => by cases z))), by simp⟩)
    · exact .inr (.inr ⟨p2, _, _, .str, .str, rfl, .inr (SqT.of (g (s1.free h2) (t3 _ _ e2) (fun ps z => by cases z))), .str _, .str _, .inr (.inr ⟨rfl, rfl⟩)⟩)
    · exact .inr (.inr ⟨p3, _, _, .str, .str, rfl, .inr (SqT.of (g (z1.free h3) (t4 _ _ e3) (fun ps z => by cases z))), .str _, .str _, .inr (.inl fun z h => by cases h; rfl)⟩)
    · exact .inr (.inr ⟨p4, _, _, .non, .str, rfl, .inr (SqT.of (g (z2.free h4) (t5 _ _ e4) (fun ps z => by cases z))), .non, .str _, .inl fun z h => by cases h⟩)
    · exact .inr (.inr ⟨p6, _, _, .str, .lst, rfl, .inr (SqT.of (g (z4.free h6) (t7 _ _ e6) (fun ps z => by cases z))), .str _, TyK.seqL (SqL.of (g (z3.free h5) (t6 _ _ e5) (fun ps z => by cases z))), .inr (.inl fun z h => by cases h)⟩)
    · exact .inl ⟨.dct, TyK.dK (g (z5.free h7) (t8 _ _ e7) (fun ps z => by cases z)), rfl⟩
    · exact .inr (.inl ⟨p8, _, rfl, .inr (SqT.of (g (z6.free h8) (s9 _ _ e8) (fun ps z => by cases z))), by simp⟩)
    · exact .inr (.inl ⟨p9, _, rfl, .inl (SqL.of (g (z7.free h9) e9 (fun ps z => by cases z))), by simp⟩)
end
end HS

set_option maxHeartbeats 4000000
/-! try: .. and several clauses 'except c as n', n one and the same local name -/
namespace HS
open PySem PySem.Spec PyProof.Rows L2
/-- the ends behind a suite: slot i is empty again -/
def gone (i : Nat) (D : Ends) : Ends := { nx := fun σ H => D.nx (σ.set i none) H, rt := D.rt, bk := fun σ H => D.bk (σ.set i none) H, ct := fun σ H => D.ct (σ.set i none) H }
abbrev Clause := Value × (Addr → Value → Option Addr → TS)
def wEach (K : PySem.W.Frag) (i : Nat) (D : Ends) : List Clause → WX
  | [] => fun _ _ _ _ => False
  | k :: r => fun cls d σ H => ∃ b, PySem.W.exmOne K cls k.1 = some b ∧ (b = true → ∀ a, H a = none → ∀ σ1 : L2.St, σ1[i]? = some (some (.ref a)) → k.2 a cls d (gone i D) σ1 H) ∧ (b = false → wEach K i D r cls d σ H)
inductive Clauses (X : Cx) (n : Str) : List ExceptHandler → List Clause → Prop
  | nil : Clauses X n [] []
  | cons {x : Str} {k : Clause} {b₀ : Stmt} {suite : List Stmt} {np p : Pos} {hds : List ExceptHandler} {l : List Clause} (hc : Names X x k.1)
      (hsu : ∀ (a : Addr) (oe : Obj) (cls : Value) (d : Option Addr) (pn : List (Addr × Obj)), Zc cls d oe → (∃ vs, oe.data = .fields vs) → PSs (X.suite a ((a, oe) :: pn)) (b₀ :: suite) (k.2 a cls d)) (r : Clauses X n hds l) :
      Clauses X n (.ExceptHandler (some (.Name x np)) (some n) (b₀ :: suite) p :: hds) (k :: l)
section
variable {X : Cx} {n : Str} {i : Nat} {body : List Stmt} {h₀ : ExceptHandler} {hds : List ExceptHandler} {l : List Clause} {pos : Pos} {tb : WX → TS}
theorem ps_try_each (hs : X.stack = X.env :: X.outer) (hf : X.env.frame = some X.env.locals) (hN : X.N.Nodup) (hi : X.N[i]? = some n) (hln : X.env.kindOf n = some .local)
    (hb : ∀ (W : WX) (pn : List (Addr × Obj)) (xe : Value → Shared → Prop), Takes (X.tr pn xe) W → PassesOwn (model X.prog X.w) X.A X.env xe → PSs (X.tr pn xe) body (tb W))
    (hh : Clauses X n (h₀ :: hds) l) : PS X (.Try body (h₀ :: hds) [] [] pos) (fun D σ H => tb (wEach X.K i D l) D σ H) := by
  refine ⟨fun pins s σ H D I h => ?_⟩
  have hfr : X.A.frames = some (X.env :: X.outer) := hs ▸ I.ok.frames
  let after : Value → Shared → Prop := fun e s₁ => wpAny (model X.prog X.w) X.A (noteFrame e X.env) (fun _ s₂ => wpAny (model X.prog X.w) X.A (setFlight e none) (fun _ s₃ => wpAny (model X.prog X.w) X.A (handleBy e X.env (h₀ :: hds)) (SP X pins D) X.xe s₃) X.xe s₂) X.xe s₁
  refine wpAny_Try_except (wpAny_mono ((hb (wEach X.K i D l) (X.pn ++ pins) after (fun u s' xx => ?_) PassesOwn.looking).run [] s σ H D (I.toTry _) h) (fun f s1 hsp => ?_) fun e s1 he => he)
  · obtain ⟨a, B, sI, pins', σ', H', cls, d, rfl, J', nb, up, sky, na, os, ag, w⟩ := xx
    show wpAny (model X.prog X.w) X.A (noteFrame (.ref a) X.env) _ _ _
    refine Sky.land Zc.steady hfr hf (show Sky B (X.env :: X.outer) a (Zc cls d) X.env.locals s'.heap from hs ▸ sky) fun h3 fl3 up3 => ?_
    have J := J'.ofTry I.ok
    obtain ⟨oe, vs0, heo, hzo, hdo⟩ := fl3.there
    have out : a ∉ frs (X.env :: X.outer) := fun hm => by
      obtain ⟨_, o', e', hnf⟩ := fl3.2.2.1.mem hm
      have : oe = o' := Option.some.inj (heo.symm.trans e')
      exact hnf _ (this ▸ hdo)
    have notL : a ≠ X.env.locals := fun z => out (List.mem_filterMap.mpr ⟨X.env, List.mem_cons_self, hf.trans (congrArg some z.symm)⟩)
    have notF : a ∉ X.fs := fun hm => let ⟨e, he, q⟩ := List.mem_filterMap.mp hm; out (List.mem_filterMap.mpr ⟨e, List.mem_cons_of_mem _ he, q⟩)
    have J3 : Inv X pins σ' H' { s' with heap := h3 } := J.landed nb fl3.1 (up.trans up3) os ag
    have S3 := J3.suite heo hdo na notL notF
    suffices each : ∀ (hds' : List ExceptHandler) (l' : List Clause), Clauses X n hds' l' → wEach X.K i D l' cls d σ' H' → wpAny (model X.prog X.w) X.A (handleBy (.ref a) X.env hds') (SP X pins D) X.xe { s' with heap := h3 } from each _ _ hh w
    intro hds' l' hk
    induction hk with
    | nil => exact fun w => False.elim w
    | @cons x k b₀ suite np p hds2 l2 hc hsu r ih =>
      rintro ⟨b, hb1, hyes, hno⟩
      refine wpAny_handleBy_cons (codeAny_handlers_test ?_) (fun q => by cases q)
      have looks : PySem.W.Looks (model X.prog X.w) h3 (typeOf (.ref a)) cls := fun _ _ _ _ kk q => wpAny_typeOf_ref (kk _ _ heo) (hzo.1 ▸ q)
      have named : ∀ {Q E : Value → Shared → Prop}, Q k.1 { s' with heap := h3 } → wpAny (model X.prog X.w) (X.A.mark (some (.ref a))) (eval (.Name x np) X.env) Q E { s' with heap := h3 } := fun {Q E} q =>
        hc.2.2.elim (fun hm => ld_glob (X := X.suite a ((a, oe) :: (X.pn ++ pins))) S3 hc.1 hm q hc.2.1) fun hm => ld_blt (X := X.suite a ((a, oe) :: (X.pn ++ pins))) S3 hc.1 hm.1 hm.2.1 q hm.2.2 hc.2.1
      refine named ((PySem.W.exm_one (M := model X.prog X.w) J3.kIn looks hb1).here ?_)
      cases b with
      | false => exact ih (hno rfl)
      | true =>
        refine codeAny_handlers_suite_as (HandSPX.lands_againZ fl3 fun h4 fl4 up4 => ?_)
        obtain ⟨o4, vs4, he4, hz4, hd4⟩ := fl4.there
        have J4 : Inv X pins σ' H' { s' with heap := h4 } := J.landed nb fl4.1 ((up.trans up3).trans up4) os ag
        refine store_ok (X := X.suite a ((a, o4) :: (X.pn ++ pins))) (v := .ref a) (J4.suite he4 hd4 na notL notF) hN hi (.inl hln) rfl (fun s5 S5 => ?_) (.inr hln)
        refine wpAny_mono ((hsu a o4 cls d (X.pn ++ pins) hz4 ⟨_, hd4⟩).run [] s5 _ H' _ S5 (hyes rfl a na _ (by rw [List.getElem?_set_self]; rw [J.len]; exact (List.getElem?_eq_some_iff.mp hi).1))) (fun f s6 hsp => ?_) fun _ _ z => z.elim
        have unbound : ∀ {σ6 : L2.St} {H6 : Hp} {Q : Shared → Prop}, Inv (X.suite a ((a, o4) :: (X.pn ++ pins))) [] σ6 H6 s6 → (∀ s7, Inv X pins (σ6.set i none) H6 s7 → Q s7) →
            wpAny (model X.prog X.w) X.A (do bindName X.env n .none; unbindBehindTheSuite X.env n p) (fun _ s7 => Q s7) X.xe s6 := fun S6 hq => gone_ok (S6.unsuite I.ok) hN hi hln hq
        cases f with
        | ret u => obtain ⟨v6, σ6, H6, S6, r6, q6⟩ := hsp; exact unbound S6 fun s7 J7 => ⟨_, _, _, J7, r6, q6⟩
        | next => obtain ⟨σ6, H6, S6, q6⟩ := hsp; exact unbound S6 fun s7 J7 => ⟨_, _, J7, q6⟩
        | brk => obtain ⟨σ6, H6, S6, q6⟩ := hsp; exact unbound S6 fun s7 J7 => ⟨_, _, J7, q6⟩
        | cont => obtain ⟨σ6, H6, S6, q6⟩ := hsp; exact unbound S6 fun s7 J7 => ⟨_, _, J7, q6⟩
  · cases f with
    | ret u => obtain ⟨v, σ', H', J', r, q⟩ := hsp; exact ⟨v, σ', H', J'.ofTry I.ok, r, q⟩
    | next => obtain ⟨σ', H', J', q⟩ := hsp; exact wpAny_execs_nil ⟨σ', H', J'.ofTry I.ok, q⟩
    | brk => obtain ⟨σ', H', J', q⟩ := hsp; exact ⟨σ', H', J'.ofTry I.ok, q⟩
    | cont => obtain ⟨σ', H', J', q⟩ := hsp; exact ⟨σ', H', J'.ofTry I.ok, q⟩
end
end HS

set_option maxHeartbeats 4000000
/-! what the law tells of a refused village -/
namespace HS
open PySem PySem.Spec L2
/-- the words: which of the three it was, with its index -/
def MetX (D : Ads) (Q : VK) : XK := fun cls d H' => ∃ (nm : Str) (cX dx : Addr) (o : V), cls = .ref cX ∧ ((cX = D.c_BadPeople ∧ nm = "people") ∨ (cX = D.c_BadTies ∧ nm = "ties") ∨ (cX = D.c_BadNews ∧ nm = "news")) ∧ d = some dx ∧ H' dx = some (.xd [("index", o)]) ∧
  ∀ p, H' p = none → Q (.ref p) (upd H' p (.tup [.str nm, o]))
def TMet (D : Ads) : (XK → Hp → VK → Prop) → Hp → VK → Prop := fun tl H Q => tl (MetX D Q) H (fun v H' => ([.str "told", v] : List V).length ≤ sizeLine ∧ ∀ p, H' p = none → Q (.ref p) (upd H' p (.tup [.str "told", v])))
section
variable {P : Program} {w : World} {K : PySem.W.Frag} {mg : Str → Option Value} {base : Heap} {D : Ads}
theorem sc_met : FnScope ["ask", "e"] ["ask"] (defScope s_law_met) := ⟨rfl, rfl, rfl, by decide +kernel, rfl, by decide +kernel, by decide +kernel⟩
theorem met_gives (T : Txt K mg D) {X : Cx} (hK : X.K = K) (hm : X.mg = mg) {g : Addr} {cdg : Value} {q : Str} : LamX.GivesTo X ["ask", "e"] "_law_met" (defScope s_law_met) g cdg (defBody s_law_met) "ask" q (TMet D) := by
  subst hK hm
  have nd := sc_met.nd
  intro f c' s H Q tl act hc h
  refine' ⟨_, pss_one (ps_try_each (X := (cxOf C8.CX0 X.prog X.w X.K X.mg X.base ["ask", "e"] "_law_met" (defScope s_law_met) g cdg X.A X.stack s H C8.E0).nox) (n := "e") (i := 1)
      (tb := fun W D σ H => ∃ Ech : XK, (∀ cls d σ' H', Ech cls d H' → W cls d σ' H') ∧ σ[0]? = some (some (.ref f)) ∧ H c' = some (LamX.CodeO c' q) ∧ tl Ech H (fun v H' => ([.str "told", v] : List V).length ≤ sizeLine ∧ ∀ p, H' p = none → D.rt (.ref p) (upd H' p (.tup [.str "told", v]))))
      rfl rfl nd rfl rfl ?body (Clauses.cons (k := (.ref D.c_BadPeople, fun a cls d => tRet (tTup (tCons (tC (.str "people")) (tCons (tXf a cls d D.c_BadPeople "index" (tVar 1)) tNil))))) ⟨rfl, by decide, .inl T.x_BadPeople.gC⟩ ?c1 (Clauses.cons (k := (.ref D.c_BadTies, fun a cls d => tRet (tTup (tCons (tC (.str "ties")) (tCons (tXf a cls d D.c_BadTies "index" (tVar 1)) tNil))))) ⟨rfl, by decide, .inl T.x_BadTies.gC⟩ ?c2 (Clauses.cons (k := (.ref D.c_BadNews, fun a cls d => tRet (tTup (tCons (tC (.str "news")) (tCons (tXf a cls d D.c_BadNews "index" (tVar 1)) tNil))))) ⟨rfl, by decide, .inl T.x_BadNews.gC⟩ ?c3 .nil)))), ?_⟩
  case c1 => exact fun a oe cls d pn hz hf => pss_one (ps_ret (pe_tup (pa_cons pe_str (pa_cons (pe_xf (X := (cxOf C8.CX0 X.prog X.w X.K X.mg X.base ["ask", "e"] "_law_met" (defScope s_law_met) g cdg X.A X.stack s H C8.E0).nox) T.x_BadPeople.xf T.x_BadPeople.noN hz hf (pv 1)) pa_nil))))
  case c2 => exact fun a oe cls d pn hz hf => pss_one (ps_ret (pe_tup (pa_cons pe_str (pa_cons (pe_xf (X := (cxOf C8.CX0 X.prog X.w X.K X.mg X.base ["ask", "e"] "_law_met" (defScope s_law_met) g cdg X.A X.stack s H C8.E0).nox) T.x_BadTies.xf T.x_BadTies.noN hz hf (pv 1)) pa_nil))))
  case c3 => exact fun a oe cls d pn hz hf => pss_one (ps_ret (pe_tup (pa_cons pe_str (pa_cons (pe_xf (X := (cxOf C8.CX0 X.prog X.w X.K X.mg X.base ["ask", "e"] "_law_met" (defScope s_law_met) g cdg X.A X.stack s H C8.E0).nox) T.x_BadNews.xf T.x_BadNews.noN hz hf (pv 1)) pa_nil))))
  case body =>
    intro W pn xe tk _
    refine ⟨fun pins s' σ H' D0 I h' => ?_⟩
    obtain ⟨Ech, hW, h1, h2, h3⟩ := h'
    exact (pss_one (ps_ret (pe_tup (pa_cons pe_str (pa_cons (act W pn xe Ech _ _ tk hW) pa_nil))))).run pins s' σ H' D0 I ⟨h1, h2, h3⟩
  · refine ⟨MetX D Q, fun cls d σ' H' hx => ?_, rfl, hc, h⟩
    obtain ⟨nm, cX, dx, o, rfl, hcx, rfl, ex, qx⟩ := hx
    have suite : ∀ (nm : Str) (C : Addr) (a : Addr) (σ1 : L2.St), (∀ p, H' p = none → Q (.ref p) (upd H' p (.tup [.str nm, o]))) → σ1[1]? = some (some (.ref a)) →
        tRet (tTup (tCons (tC (.str nm)) (tCons (tXf a (.ref C) (some dx) C "index" (tVar 1)) tNil))) (gone 1 { nx := fun _ H' => Q .non H', rt := Q }) σ1 H' := fun nm C a σ1 qn h1 => ⟨_, h1, rfl, rfl, dx, _, o, rfl, ex, lk_eq, (by show 2 ≤ sizeLine; decide), fun p hp => qn p hp⟩
    rcases hcx with ⟨rfl, rfl⟩ | ⟨rfl, rfl⟩ | ⟨rfl, rfl⟩
    · exact ⟨true, T.x_BadPeople.te, fun _ a _ σ1 h1 => suite _ _ a σ1 qx h1, fun z => (nomatch z)⟩
    · exact ⟨false, T.ne_BadTies_BadPeople, fun z => (nomatch z), fun _ => ⟨true, T.x_BadTies.te, fun _ a _ σ1 h1 => suite _ _ a σ1 qx h1, fun z => (nomatch z)⟩⟩
    · exact ⟨false, T.ne_BadNews_BadPeople, fun z => (nomatch z), fun _ => ⟨false, T.ne_BadNews_BadTies, fun z => (nomatch z), fun _ => ⟨true, T.x_BadNews.te, fun _ a _ σ1 h1 => suite _ _ a σ1 qx h1, fun z => (nomatch z)⟩⟩⟩
end
end HS

set_option maxHeartbeats 4000000
/-! _law_met(lambda: Village(..)) of things that are refused -/
namespace HS
open PySem PySem.Spec L2
section
variable {P : Program} {w : World} {K : PySem.W.Frag} {mg : Str → Option Value} {base : Heap} {D : Ads}
/-- what is refused, with which word and which index -/
def Refused (K : PySem.W.Frag) (H : Hp) (vp vt vn : V) (nm : Str) (o : V) : Prop :=
  (FBN K H vp o ∧ nm = "people") ∨ ∃ pa ns, vp = .ref pa ∧ SeqV K H pa (ns.map V.str) ∧ Good ns ∧ ns ≠ [] ∧ ns.length ≤ 1000 ∧
    ((FBT K H ns vt o ∧ nm = "ties") ∨ ∃ ta ts es, vt = .ref ta ∧ SeqV K H ta ts ∧ PairsV K H ts es ∧ GoodT ns es ∧ es.length ≤ 1000 ∧ ns.length ≤ es.length + 1 ∧ FBA K H ns.length vn o ∧ nm = "news")
theorem refused_make {H : Hp} {Q : VK} {R : Addr → Hp → Prop} {vp vt vn : V} {nm : Str} {o : V} (h : Refused K H vp vt vn nm o) (ho : o ≠ .non) (q : ∀ p H', Same H H' → H' p = some (.tup [.str nm, o]) → Q (.ref p) H') :
    ∀ x dx, H x = none → H dx = none → dx ≠ x → sp_vinit K D [.ref x, vp, vt, vn] (upd (upd H dx (.own x)) x (.ins D.C dx [])) (fun v H2 => v = .non ∧ R x H2) (MetX D Q) := by
  intro x dx hx hdx ne
  have s : Same H (upd (upd H dx (.own x)) x (.ins D.C dx [])) := same_upd (Same.new' (Same.refl _) hdx) hx
  have out : ∀ (C : Addr) (nm : Str), ((C = D.c_BadPeople ∧ nm = "people") ∨ (C = D.c_BadTies ∧ nm = "ties") ∨ (C = D.c_BadNews ∧ nm = "news")) → (∀ p H', Same H H' → H' p = some (.tup [.str nm, o]) → Q (.ref p) H') → Eout C o (upd (upd H dx (.own x)) x (.ins D.C dx [])) (MetX D Q) := fun C nm hc q H' d s' hd =>
    ⟨nm, C, d, o, rfl, hc, rfl, upd_same, fun p hp => q p _ ((s.trans s').trans ((same_new hd).trans (same_new hp))) upd_same⟩
  refine ⟨x, dx, _, _, _, rfl, upd_same, ?_⟩
  rcases h with ⟨fb, rfl⟩ | ⟨pa, ns, rfl, hp, hg, hne, hl, h⟩
  · exact .inl ⟨o, fb.same s, ho, out _ _ (.inl ⟨rfl, rfl⟩) q⟩
  refine .inr ⟨pa, ns, rfl, hp.same s, hg, hne, hl, ?_⟩
  rcases h with ⟨ft, rfl⟩ | ⟨ta, ts, es, rfl, ht, hpv, hgt, hel, hle, fa, rfl⟩
  · exact .inl ⟨o, ft.same s, ho, out _ _ (.inr (.inl ⟨rfl, rfl⟩)) q⟩
  · exact .inr ⟨ta, ts, es, rfl, ht.same s, hpv.same s, hgt, hel, hle, .inl ⟨o, fa.same s, ho, out _ _ (.inr (.inr ⟨rfl, rfl⟩)) q⟩⟩
theorem pe_met (T : Txt K mg D) {X : Cx} (hK : X.K = K) (hm : X.mg = mg) {Tb : List (Addr × Str)} {c Pt : Addr} {params : Arguments} {scope : Scope} {e1 e2 e3 : Expr} {ta : TA} {p p2 lpos pos pos2 : Pos} (hg : Gl X "_law_met")
    (TB : LamX.TabB X.base X.mg c Pt) (hcode : X.env.code = .ref c) (hmT : (Pt, X.env.qual ++ "<lambda>") ∈ Tb) (hu : ∀ p ∈ Tb, p.1 = Pt → p.2 = X.env.qual ++ "<lambda>") (hr : Room 8 X.A) (L : LamX.LamS X.env.scope scope) (hdef : defaultsOf params X.env = ([], []))
    (hbind : ∀ (q : Str) (cl : List (Str × Addr)) (pm cv ctv : Value), bindArgs (PySem.W.kla_fn "<lambda>" q params (.Call (.Name "Village" p2) [e1, e2, e3] [] pos2) scope cl pm cv ctv) ⟨[], []⟩ = pure [])
    (hgv : scope.names.lookup ("Village" : Str) = some .globalImplicit) (hP : X.prog = P) (hw : X.w = w) (hb : X.base = base)
    (ha : ∀ (A : Around) (outer : List Env) (s : Shared) (H : Hp) (E : XK) (f c' : Addr), PA (LamX.lamCx X A outer s H E scope f c') [e1, e2, e3] ta)
    (hst : ∀ (A : Around) (outer : List Env) (s : Shared) (H : Hp) (E : XK) (f c' : Addr), starEach [e1, e2, e3] (LamX.lamCx X A outer s H E scope f c').env = (false, eval e1 (LamX.lamCx X A outer s H E scope f c').env) :: starEach [e2, e3] (LamX.lamCx X A outer s H E scope f c').env)
    (hpl : ∀ (A : Around) (outer : List Env) (s : Shared) (H : Hp) (E : XK) (f c' : Addr), (backTo pos2 (starEach [e2, e3] (LamX.lamCx X A outer s H E scope f c').env)).any (·.1) = false) :
    PE X (.Call (.Name "_law_met" p) [.Lambda params (.Call (.Name "Village" p2) [e1, e2, e3] [] pos2) scope lpos] [] pos) (LamX.tLam Tb (TMet D) fun E => tMake D.C (sp_vinit K D) [] E ta) := by
  subst hK hm hP hw hb
  have G5 : FnOk X.prog X.w X.K X.mg X.base (L2.CX X.prog X.w) 5 D.a_v_init D.d_v_init ["self", "people", "ties", "news"] (sp_vinit X.K D) := ok_vinit T
  obtain ⟨oc, od, kV, doc, pm, an, cdv, ct, osl, efd, lk, hcg⟩ := T.F_law_met.ex
  have hb' := T.b_law_met
  rw [efd] at hb' lk
  exact LamX.pe_lamcall (TT := TMet D) (t := fun E => tMake D.C (sp_vinit X.K D) [] E ta) (k := 6) (Ng := ["ask", "e"]) hg T.g_law_met T.F_law_met.kp lk hcg hb' sc_met rfl (Or.inl rfl) (met_gives T rfl rfl) TB hcode hmT hu hr L hdef hbind
    (fun A outer s H E f c' hr6 => pe_make (C := D.C) T.mkr G5 hr6 hgv T.gC T.b_v_init .nil (passes_call (takes_of rfl rfl rfl rfl) fun _ _ _ _ h => h) (ha A outer s H E f c') (by decide) (hst A outer s H E f c') (hpl A outer s H E f c'))
end
end HS

set_option maxHeartbeats 4000000
namespace HS
open PySem PySem.Spec L2
abbrev GN (sp : Addr) (H : Hp) : Hp := noT (del H sp)
/-- the law's world: what stood stays, a spring, the tables of code -/
structure Wd (Tb : List (Addr × Str)) (sp : Addr) (G : Hp) (n : Nat) (X : Hp) : Prop where
  g : Same G (GN sp X)
  s : Spr X sp n
  t : LamX.Tabs Tb X
theorem Wd.same {Tb : List (Addr × Str)} {sp : Addr} {G : Hp} {n : Nat} {X Y : Hp} (h : Wd Tb sp G n X) (s : Same X Y) : Wd Tb sp G n Y := ⟨h.g.trans (noT_same (same_del s)), h.s.same s, h.t.ext s⟩
theorem tabs_frm {Tb : List (Addr × Str)} {sp : Addr} {n : Nat} {X Y : Hp} (t : LamX.Tabs Tb X) (hs : Spr X sp n) (f : Frm sp X Y) : LamX.Tabs Tb Y := fun p hp => by
  have ns : ∀ {b : Addr} {o : HO}, X b = some o → (∀ xs, o ≠ .lst xs) → Y b = some o := fun e n => f.at_ (fun z => by
    obtain ⟨L, e2, _⟩ := hs
    rw [z, e2] at e
    exact n _ (Option.some.inj e).symm) e
  obtain ⟨ps, h1, h2, h3⟩ := t p hp
  refine ⟨ps, ns h1 (fun xs z => by cases z), h2, fun pos cv hc => ?_⟩
  obtain ⟨c, e1, e2⟩ := h3 pos cv hc
  exact ⟨c, e1, ns e2 (fun xs z => by unfold LamX.CodeO at z; cases z)⟩
theorem Wd.frm {Tb : List (Addr × Str)} {sp : Addr} {G : Hp} {n m : Nat} {X Y : Hp} (h : Wd Tb sp G n X) (f : Frm sp X Y) (s : Spr Y sp m) : Wd Tb sp G m Y := ⟨h.g.trans (noT_same f), s, tabs_frm h.t h.s f⟩
theorem Wd.ext {Tb : List (Addr × Str)} {sp : Addr} {G : Hp} {n : Nat} {X Y : Hp} (h : Wd Tb sp G n X) (e : LamX.ExtN X Y) (t : LamX.Tabs Tb Y) : Wd Tb sp G n Y := by
  refine ⟨h.g.trans fun b o he => ?_, ?_, t⟩
  · obtain ⟨h1, h2⟩ := noT_in he
    have bs : b ≠ sp := fun z => by rw [z, del_same] at h1; cases h1
    rw [del_ne bs] at h1
    exact noT_of (del_of bs (e _ _ h1 h2)) h2
  · obtain ⟨L, e1, e2⟩ := h.s
    exact ⟨L, e _ _ e1 (fun ps z => by cases z), e2⟩
theorem Wd.get {Tb : List (Addr × Str)} {sp : Addr} {G : Hp} {n : Nat} {X : Hp} (h : Wd Tb sp G n X) : Same G X := h.g.trans (noT_le.trans del_le)
theorem Wd.rebase {Tb : List (Addr × Str)} {sp : Addr} {G : Hp} {n : Nat} {X : Hp} (h : Wd Tb sp G n X) : Wd Tb sp (GN sp X) n X := ⟨Same.refl _, h.s, h.t⟩
theorem Wd.back {Tb : List (Addr × Str)} {sp : Addr} {G G' : Hp} {n m : Nat} {X : Hp} (s : Same G G') (h : Wd Tb sp G' n X) (l : n ≤ m) : Wd Tb sp G m X := ⟨s.trans h.g, h.s.mono l, h.t⟩
theorem Wd.gn {Tb : List (Addr × Str)} {sp : Addr} {G : Hp} {n : Nat} {X : Hp} (h : Wd Tb sp G n X) {b : Addr} {o : HO} (e : X b = some o) (n1 : ∀ ps, o ≠ .tbl ps) (n2 : ∀ L m, SprL L m → o ≠ .lst L) : GN sp X b = some o := by
  refine noT_of (del_of (fun z => ?_) e) n1
  obtain ⟨L, e2, e3⟩ := h.s
  rw [z, e2] at e
  exact n2 L n e3 (Option.some.inj e).symm
/-! ### a word with an index -/
def dM (nm : Str) (k : Int) : PyData := .tuple [.str nm, .int k]
theorem sh_dM {nm : Str} (h : PyData.strOk nm = true) (k : Int) : SeqAt.shaped (dM nm k) = true := by
  unfold SeqAt.shaped
  have h1 : (dM nm k).canLay0 = true := by
    show (PyData.strOk nm && (true && true)) = true
    rw [h]; rfl
  have h3 : (dM nm k).depth ≤ 64 := by show 1 ≤ 64; decide
  rw [h1, decide_eq_true h3]; rfl
theorem eqv_dM (nm : Str) (k : Int) : PyData.eqv (dM nm k) (dM nm k) = true := by
  show (PyData.eqv (.str nm) (.str nm) && (PyData.eqv (.int k) (.int k) && true)) = true
  rw [eqv_str, eqv_int]; simp
theorem ne_word {K : PySem.W.Frag} {H : Hp} {p t : Addr} {nm : Str} {k : Int} {Q : VK} (hp : H p = some (.tup [.str nm, .int k])) (ht : H t = some (.tup [.str nm, .int k])) (hs : PyData.strOk nm = true) (q : Q (.bl false) H) : rNeD K (.ref p) (.ref t) H Q := by
  have d : ∀ {u : Addr}, H u = some (.tup [.str nm, .int k]) → Dp K H (.ref u) (dM nm k) := fun e => .tup (SqT.of e) (.cons (.str _) (.cons (.int _) .nil))
  refine ⟨_, _, d hp, d ht, sh_dM hs k, sh_dM hs k, ?_⟩
  rw [eqv_dM]
  exact q
section
variable {P : Program} {w : World} {K : PySem.W.Frag} {mg : Str → Option Value} {base : Heap} {D : Ads}
theorem okC {x qual : Str} {st : Stmt} {f c : Addr} {fd : FuncData} {N ps : List Str} {k : Nat} {sp : Sp} (F : Fun K x qual st f fd) (hc : fd.code = .ref c) (S : FnScope N ps (defScope st)) (len : ∀ vs H Q E, sp vs H Q E → vs.length = ps.length)
    (hbody : ∀ (A : Around) (outer : List Env) (s : Shared) (H : Hp) (vs : List V) (Q : VK) (E : XK), Room k (A.deeper (PyProof.Rows.envOfC qual (defScope st) s.heap.objs.size f (.ref c))) → sp vs H Q E →
      ∃ t, PSs (cxOf CX0 P w K mg base N qual (defScope st) f (.ref c) A outer s H E).nox (defBody st) t ∧ t { nx := fun _ H' => Q .non H', rt := Q } (start N vs) H) : FnOk P w K mg base CX0 (k + 1) f fd ps sp := by
  obtain ⟨oc, od, kV, doc, pm, an, cdv, ct, osl, e, lk, hcd⟩ := F.ex
  have hv : cdv = .ref c := by rw [e] at hc; exact hc
  subst hv
  subst e
  exact fn_of lk hcd S len fun A outer s H vs Q E hr hsp => let ⟨t, h, q⟩ := hbody A outer s H vs Q E hr hsp; ⟨t, h.nox, q⟩
end
theorem goodT_take {ns : List Str} {es : Ties} (h : GoodT ns es) (k : Nat) : GoodT ns (es.take k) := fun i e he => by
  rw [List.getElem?_take] at he
  by_cases hi : i < k
  · rw [if_pos hi] at he
    rw [List.take_take, Nat.min_eq_left (Nat.le_of_lt hi)]
    exact h i e he
  · rw [if_neg hi] at he; cases he
theorem OddT.bad {K : PySem.W.Frag} {H : Hp} {ns : List Str} {es : Ties} {n0 : Str} {v : V} (h : OddT K H n0 v) (hn : n0 ∈ ns) (nn : ∀ z ∈ ns, z ≠ "nobody") : BadTie K H ns es v := by
  rcases h with ⟨k, t, e⟩ | ⟨a, xs, e, q, n⟩ | ⟨a, x, y, k, l, e, q, t1, t2, r⟩
  · exact .inl ⟨k, t, e⟩
  · exact .inr (.inl ⟨a, xs, e, q, n⟩)
  · refine .inr (.inr ⟨a, x, y, k, l, e, q, t1, t2, ?_⟩)
    rcases r with r | r | ⟨rfl, rfl⟩
    · exact .inl fun z hz => absurd hz (r z)
    · exact .inr (.inl fun z hz m => nn z m (r z hz))
    · exact .inr (.inr ⟨n0, n0, rfl, rfl, hn, hn, rfl⟩)
theorem delGN_upd {sp L : Addr} {Y : Hp} {o : HO} : del (GN sp (upd Y L o)) L = del (GN sp Y) L := by
  funext b
  by_cases hb : b = L
  · rw [hb, del_same, del_same]
  · rw [del_ne hb, del_ne hb]
    unfold GN noT
    by_cases h2 : b = sp
    · rw [h2, del_same, del_same]
    · rw [del_ne h2, del_ne h2, upd_ne hb]
theorem tup_bad {K : PySem.W.Frag} {H : Hp} {ns : List Str} {es : Ties} {v : V} {e : Str × Str} (h : TupAt K H v e) (m1 : e.1 ∈ ns) (m2 : e.2 ∈ ns) (l : lab es e.1 = lab es e.2) : BadTie K H ns es v := by
  obtain ⟨a, rfl, q⟩ := h
  exact .inr (.inr ⟨a, _, _, .str, .str, rfl, .inr q, .str _, .str _, .inr (.inr ⟨e.1, e.2, rfl, rfl, m1, m2, l⟩)⟩)
theorem goodT_less {ns : List Str} {es : Ties} (t : Tree ns es) {i : Nat} (hi : i < es.length) : GoodT ns (es.take i ++ es.drop (i + 1)) := by
  have p : ((es.take i ++ es.drop (i + 1)) ++ [es[i]]).Perm es := by
    have e : es = es.take i ++ es[i] :: es.drop (i + 1) := by
      conv => lhs; rw [← List.take_append_drop i es, List.drop_eq_getElem_cons hi]
    have q : ((es.take i ++ es.drop (i + 1)) ++ [es[i]]).Perm (es.take i ++ es[i] :: es.drop (i + 1)) := by
      rw [List.append_assoc]
      exact List.Perm.append_left _ List.perm_append_comm
    exact q.trans (List.Perm.of_eq e.symm)
  have g := goodT_take (t.perm (.refl _) p).good (es.take i ++ es.drop (i + 1)).length
  rwa [List.take_left] at g
theorem Wd.put {Tb : List (Addr × Str)} {sp L : Addr} {G : Hp} {n : Nat} {Y : Hp} {xs ys : List V} (h : Wd Tb sp G n Y) (hG : G L = none) (hs : L ≠ sp) (e : Y L = some (.lst xs)) : Wd Tb sp G n (upd Y L (.lst ys)) := by
  have keep : ∀ {b : Addr} {o : HO}, Y b = some o → (∀ zs, o ≠ .lst zs) → upd Y L (.lst ys) b = some o := fun {b o} e2 no => by
    have : b ≠ L := fun z => by rw [z, e] at e2; exact no _ (Option.some.inj e2).symm
    rw [upd_ne this]; exact e2
  refine ⟨fun b o hb => ?_, h.s.upd hs, fun p hp => ?_⟩
  · have bL : b ≠ L := fun z => by rw [z, hG] at hb; cases hb
    obtain ⟨h1, h2⟩ := noT_in (h.g _ _ hb)
    have bs : b ≠ sp := fun z => by rw [z, del_same] at h1; cases h1
    rw [del_ne bs] at h1
    exact noT_of (del_of bs (by rw [upd_ne bL]; exact h1)) h2
  · obtain ⟨ps, h1, h2, h3⟩ := h.t p hp
    refine ⟨ps, keep h1 (fun zs z => by cases z), h2, fun pos cv hc => ?_⟩
    obtain ⟨c, e1, e2⟩ := h3 pos cv hc
    exact ⟨c, e1, keep e2 (fun zs z => by unfold LamX.CodeO at z; cases z)⟩
theorem dpAll_of {K : PySem.W.Frag} {H : Hp} : ∀ (vs : List V) (ds : List PyData), vs.length = ds.length → (∀ (i : Nat) v d, vs[i]? = some v → ds[i]? = some d → Dp K H v d) → DpAll K H vs ds
  | [], [], _, _ => .nil
  | [], _ :: _, h, _ => absurd h (by simp)
  | _ :: _, [], h, _ => absurd h (by simp)
  | v :: vs, d :: ds, h, r => .cons (r 0 v d rfl rfl) (dpAll_of vs ds (by simpa using h) fun i v d a b => r (i + 1) v d a b)
def dWs (m : Nat) : PyData := .list ((List.range m).map fun (j : Nat) => dM "news" (j : Int))
theorem sh_dWs (m : Nat) : SeqAt.shaped (dWs m) = true := by
  unfold SeqAt.shaped
  have h1 : (dWs m).canLay0 = true := canAll_map _ _ fun j _ => SeqAt.canLay_of_shaped (sh_dM (by decide +kernel) _)
  have h2 := depthAll_map (fun j : Nat => dM "news" (j : Int)) 1 (List.range m) fun _ _ => Nat.le_refl _
  have h3 : (dWs m).depth ≤ 64 := by show PyData.depthAll _ + 1 ≤ 64; omega
  rw [h1, decide_eq_true h3]; rfl
theorem eqv_dWs (m : Nat) : PyData.eqv (dWs m) (dWs m) = true := by
  have h := eqvAll_map (fun j : Nat => dM "news" (j : Int)) (fun x y => by
    show (PyData.eqv (.str "news") (.str "news") && (PyData.eqv (.int x) (.int y) && true)) = _
    rw [eqv_str, eqv_int]
    have e2 : (x : Int) = y ↔ x = y := Int.ofNat_inj
    simp only [e2, decide_true, Bool.true_and, Bool.and_true]) (List.range m) (List.range m)
  exact h.trans (decide_eq_true rfl)
/-- words with their indices, in a list -/
def Words (H : Hp) (acc : List V) (m : Nat) : Prop := acc.length = m ∧ ∀ (j : Nat) v, acc[j]? = some v → ∃ p, v = .ref p ∧ H p = some (.tup [.str "news", .int (j : Int)])
theorem Words.same {H H' : Hp} {acc : List V} {m : Nat} (s : Same H H') (h : Words H acc m) : Words H' acc m := ⟨h.1, fun j v e => let ⟨p, x, y⟩ := h.2 j v e; ⟨p, x, s _ _ y⟩⟩
theorem Words.snoc {H : Hp} {acc : List V} {m : Nat} {p : Addr} (h : Words H acc m) (e : H p = some (.tup [.str "news", .int (m : Int)])) : Words H (acc ++ [.ref p]) (m + 1) := ⟨by simp [h.1], fun j v hv => by
  by_cases hj : j < acc.length
  · rw [List.getElem?_append_left hj] at hv
    exact h.2 j v hv
  · rw [List.getElem?_append_right (by omega)] at hv
    have h0 : j - acc.length = 0 := by
      have := (List.getElem?_eq_some_iff.mp hv).1
      simpa using this
    rw [h0] at hv
    cases hv
    have : j = m := by have := h.1; omega
    subst this
    exact ⟨p, rfl, e⟩⟩
theorem Words.dp {K : PySem.W.Frag} {H : Hp} {L : Addr} {acc : List V} {m : Nat} (h : Words H acc m) (e : H L = some (.lst acc)) : Dp K H (.ref L) (dWs m) := .lst (SqL.of e) (dpAll_of _ _ (by simp [h.1]) fun i v d a b => by
  obtain ⟨p, rfl, q⟩ := h.2 i v a
  rw [List.getElem?_map] at b
  have hi : i < m := by rw [← h.1]; exact (List.getElem?_eq_some_iff.mp a).1
  rw [List.getElem?_range hi] at b
  cases b
  exact .tup (SqT.of q) (.cons (.str _) (.cons (.int _) .nil)))
theorem gn_ext {sp : Addr} {X Y : Hp} (e : LamX.ExtN X Y) : Same (GN sp X) (GN sp Y) := fun b o he => by
  obtain ⟨h1, h2⟩ := noT_in he
  have bs : b ≠ sp := fun z => by rw [z, del_same] at h1; cases h1
  rw [del_ne bs] at h1
  exact noT_of (del_of bs (e _ _ h1 h2)) h2
theorem sl_listK {X : Cx} {K : PySem.W.Frag} (hK : X.K = K) : SlR X (rSlL K) := by
  subst hK
  exact sl_list
end HS

set_option maxHeartbeats 4000000
namespace HS
open PySem PySem.Spec L2
/-- a part of the law that makes lambdas: true, in a world that goes on -/
def sp_ref (K : PySem.W.Frag) (Tb : List (Addr × Str)) (C : Nat) : Sp := fun vs H Q _ => ∃ (sp f : Addr) (n : Nat) (G : Hp) (ns : List Str) (es : Ties) (ws : List Int), vs = [.ref sp, .ref f] ∧ Wd Tb sp G n H ∧ n + C ≤ 600000000 ∧ Form K G f ns es ws ∧ Dat ns es ws ∧
  ∀ H' n', n' ≤ n + C → Wd Tb sp G n' H' → Q (.bl true) H'
abbrev NR : List Str := ["spring", "form", "names", "ties", "news", "odd", "at", "k", "left", "tie"]
theorem sc_refused : FnScope NR ["spring", "form"] (defScope s_law_refused_right) := ⟨rfl, rfl, rfl, by decide +kernel, rfl, by decide +kernel, by decide +kernel⟩
section
variable {P : Program} {w : World} {K : PySem.W.Frag} {mg : Str → Option Value} {base : Heap} {D : Ads}
theorem ok_refused (T : Txt K mg D) {Tb : List (Addr × Str)} {c Pt : Addr} (hc : D.d_law_refused_right.code = .ref c) (TB : LamX.TabB base mg c Pt) (hmT : (Pt, ("_law_refused_right.<locals>.<lambda>" : Str)) ∈ Tb) (hu : ∀ p ∈ Tb, p.1 = Pt → p.2 = "_law_refused_right.<locals>.<lambda>")
    (hmet : ∃ o, K.lookup D.a_law_met = some o ∧ o.cls = .type "function")
    (GNr : FnOk P w K mg base CX0 9 D.a_law_news_right D.d_law_news_right ["spring", "form"] (sp_ref K Tb 1000)) (GRr : FnOk P w K mg base CX0 9 D.a_law_rings_right D.d_law_rings_right ["spring", "form"] (sp_ref K Tb 1000)) :
    FnOk P w K mg base CX0 10 D.a_law_refused_right D.d_law_refused_right ["spring", "form"] (sp_ref K Tb 3000) := by
  have G1 : FnOk P w K mg base CX0 1 D.a_law_draw D.d_law_draw ["spring", "many"] sp_draw := ok_draw T
  have G2 : FnOk P w K mg base CX0 1 D.a_law_odd_people D.d_law_odd_people ["names"] (sp_oddp K) := ok_oddp T
  have G3 : FnOk P w K mg base CX0 1 D.a_law_odd_ties D.d_law_odd_ties ["names"] (sp_oddt K) := ok_oddt T
  have nd := sc_refused.nd
  refine okC T.F_law_refused_right hc sc_refused (fun vs H Q E h => ?_) (fun A outer s H vs Q E hr h => ?_)
  · obtain ⟨sp, f, n, G, ns, es, ws, rfl, _⟩ := h
    rfl
  · obtain ⟨sp, f, n, G, ns, es, ws, rfl, hw, hn, hF, dat, q⟩ := h
    have hr8 : Room 8 _ := hr.mono (by decide)
    have hr1 : Room 1 _ := hr.mono (by decide)
    have hun := hr.units
    refine' ⟨_, pss_cons (ps_asg (pv 1) (pg_tup (by rfl) (pgs_cons (pg_name (i := 2) nd rfl (Or.inr rfl)) (pgs_cons (pg_name (i := 3) nd rfl (Or.inr rfl)) (pgs_cons (pg_name (i := 4) nd rfl (Or.inl rfl)) pgs_nil)))))
      (pss_cons (ps_for PassesOwn.never rfl (pi_list (pe_lst (pa_cons pe_non (pa_cons pe_int (pa_cons pe_str (pa_cons (pe_lst pa_nil) (pa_cons (pe_tup pa_nil) (pa_cons pe_dnewK (pa_cons pe_bl (pa_cons (pe_glob (v := .ref D.a_law_met) (by rfl) T.g_law_met rfl) pa_nil)))))))))) (pg_name (i := 5) nd rfl (Or.inr rfl)) (pss_one (ps_if (pt_cmpR (op_neD hun) (pe_met T rfl rfl (by rfl) TB rfl hmT hu hr8 (LamX.lamS_by (sc := defScope s_law_refused_right) (by decide +kernel)) rfl (fun _ _ _ _ _ => rfl) rfl rfl rfl rfl ?a1 (fun _ _ _ _ _ _ _ => rfl) (fun _ _ _ _ _ _ _ => rfl)) (pe_tup (pa_cons pe_str (pa_cons pe_int pa_nil))) (nomark _)) pss_no pss_nil)))
      (pss_cons (ps_for PassesOwn.never rfl (pi_list (pe_call G2 hr1 rfl T.g_law_odd_people T.F_law_odd_people.kp T.b_law_odd_people .nil pass0 (pa_cons (pv 2) pa_nil))) (pg_name (i := 5) nd rfl (Or.inr rfl)) (pss_cons (ps_set (i := 6) nd rfl (Or.inr rfl) (pe_op op_add pe_int (pe_call G1 hr1 rfl T.g_law_draw T.F_law_draw.kp T.b_law_draw .nil pass0 (pa_cons (pv 0) (pa_cons (pe_callB call_len_seq (by rfl) T.z_len PySem.boot_len (pa_cons (pv 2) pa_nil)) pa_nil))))) (pss_one (ps_if (pt_cmpR (op_neD hun) (pe_met T rfl rfl (by rfl) TB rfl hmT hu hr8 (LamX.lamS_by (sc := defScope s_law_refused_right) (by decide +kernel)) rfl (fun _ _ _ _ _ => rfl) rfl rfl rfl rfl ?a2 (fun _ _ _ _ _ _ _ => rfl) (fun _ _ _ _ _ _ _ => rfl)) (pe_tup (pa_cons pe_str (pa_cons (pv 6) pa_nil))) (nomark _)) pss_no pss_nil))))
      (pss_cons (ps_for PassesOwn.never rfl (pi_list (pe_lst (pa_cons pe_non (pa_cons pe_int (pa_cons pe_str (pa_cons pe_dnewK (pa_cons pe_bl pa_nil))))))) (pg_name (i := 5) nd rfl (Or.inr rfl)) (pss_cons (ps_if (pt_cmpR (op_neD hun) (pe_met T rfl rfl (by rfl) TB rfl hmT hu hr8 (LamX.lamS_by (sc := defScope s_law_refused_right) (by decide +kernel)) rfl (fun _ _ _ _ _ => rfl) rfl rfl rfl rfl ?a3 (fun _ _ _ _ _ _ _ => rfl) (fun _ _ _ _ _ _ _ => rfl)) (pe_tup (pa_cons pe_str (pa_cons pe_int pa_nil))) (nomark _)) pss_no pss_nil) (pss_one (ps_if (pt_cmpR (op_neD hun) (pe_met T rfl rfl (by rfl) TB rfl hmT hu hr8 (LamX.lamS_by (sc := defScope s_law_refused_right) (by decide +kernel)) rfl (fun _ _ _ _ _ => rfl) rfl rfl rfl rfl ?a4 (fun _ _ _ _ _ _ _ => rfl) (fun _ _ _ _ _ _ _ => rfl)) (pe_tup (pa_cons pe_str (pa_cons pe_int pa_nil))) (nomark _)) pss_no pss_nil))))
      (pss_cons (ps_for PassesOwn.never rfl (pi_list (pe_call G3 hr1 rfl T.g_law_odd_ties T.F_law_odd_ties.kp T.b_law_odd_ties .nil pass0 (pa_cons (pv 2) pa_nil))) (pg_name (i := 5) nd rfl (Or.inr rfl)) (pss_cons (ps_set (i := 6) nd rfl (Or.inr rfl) (pe_call G1 hr1 rfl T.g_law_draw T.F_law_draw.kp T.b_law_draw .nil pass0 (pa_cons (pv 0) (pa_cons (pe_op op_add (pe_callB call_len_seq (by rfl) T.z_len PySem.boot_len (pa_cons (pv 3) pa_nil)) pe_int) pa_nil)))) (pss_one (ps_if (pt_cmpR (op_neD hun) (pe_met T rfl rfl (by rfl) TB rfl hmT hu hr8 (LamX.lamS_by (sc := defScope s_law_refused_right) (by decide +kernel)) rfl (fun _ _ _ _ _ => rfl) rfl rfl rfl rfl ?a5 (fun _ _ _ _ _ _ _ => rfl) (fun _ _ _ _ _ _ _ => rfl)) (pe_tup (pa_cons pe_str (pa_cons (pv 6) pa_nil))) (nomark _)) pss_no pss_nil))))
      (pss_cons (ps_for PassesOwn.never rfl (pi_list (pe_op op_cat (pv 3) (pe_lc (own := [("tie", 9)]) (g := gName 9) (tt := tYes) rfl nd (pi_list (pv 3)) (blkOk_by (N := NR) (sc := defScope s_law_refused_right) (by decide +kernel)) (fun _ _ _ _ _ => pg_name (i := 9) nd rfl (Or.inl rfl)) (fun _ _ _ _ _ => pts_nil) (fun _ _ _ _ _ => pe_revT (K := K) rfl (pv 9))))) (pg_name (i := 5) nd rfl (Or.inr rfl)) (pss_one (ps_if (pt_cmpR (op_neD hun) (pe_met T rfl rfl (by rfl) TB rfl hmT hu hr8 (LamX.lamS_by (sc := defScope s_law_refused_right) (by decide +kernel)) rfl (fun _ _ _ _ _ => rfl) rfl rfl rfl rfl ?a6 (fun _ _ _ _ _ _ _ => rfl) (fun _ _ _ _ _ _ _ => rfl)) (pe_tup (pa_cons pe_str (pa_cons (pe_callB call_len_seq (by rfl) T.z_len PySem.boot_len (pa_cons (pv 3) pa_nil)) pa_nil))) (nomark _)) pss_no pss_nil)))
      (pss_cons (ps_for PassesOwn.never rfl (pi_range1 (by rfl) T.z_range (pa_cons (pe_callB call_len_seq (by rfl) T.z_len PySem.boot_len (pa_cons (pv 3) pa_nil)) pa_nil)) (pg_name (i := 7) nd rfl (Or.inl rfl)) (pss_cons (ps_set (i := 8) nd rfl (Or.inr rfl) (pe_op op_cat (pe_slice sl_list (pv 3) po_none (po_some (pv 7))) (pe_slice sl_list (pv 3) (po_some (pe_op op_add (pv 7) pe_int)) po_none))) (pss_one (ps_if (pt_cmpR (op_neD hun) (pe_met T rfl rfl (by rfl) TB rfl hmT hu hr8 (LamX.lamS_by (sc := defScope s_law_refused_right) (by decide +kernel)) rfl (fun _ _ _ _ _ => rfl) rfl rfl rfl rfl ?a7 (fun _ _ _ _ _ _ _ => rfl) (fun _ _ _ _ _ _ _ => rfl)) (pe_tup (pa_cons pe_str (pa_cons (pe_callB call_len_seq (by rfl) T.z_len PySem.boot_len (pa_cons (pv 8) pa_nil)) pa_nil))) (nomark _)) pss_no pss_nil))))
      (pss_one (ps_ret (pe_and (pe_call GNr hr rfl T.g_law_news_right T.F_law_news_right.kp T.b_law_news_right .nil pass0 (pa_cons (pv 0) (pa_cons (pv 1) pa_nil))) (pe_one (pe_call GRr hr rfl T.g_law_rings_right T.F_law_rings_right.kp T.b_law_rings_right .nil pass0 (pa_cons (pv 0) (pa_cons (pv 1) pa_nil))))))))))))), ?_⟩
    case a1 => exact fun _ _ _ _ _ _ _ => pa_cons (pv 5) (pa_cons (pv 5) (pa_cons (pv 5) pa_nil))
    case a2 => exact fun _ _ _ _ _ _ _ => pa_cons (pe_op op_cat (pe_slice (sl_listK (K := K) rfl) (pv 2) po_none (po_some (pv 6))) (pe_lst (pa_cons (pv 5) (pa_cons pe_non pa_nil)))) (pa_cons pe_non (pa_cons pe_non pa_nil))
    case a3 => exact fun _ _ _ _ _ _ _ => pa_cons (pv 2) (pa_cons (pv 5) (pa_cons (pv 5) pa_nil))
    case a4 => exact fun _ _ _ _ _ _ _ => pa_cons (pv 2) (pa_cons (pv 3) (pa_cons (pv 5) pa_nil))
    case a5 => exact fun _ _ _ _ _ _ _ => pa_cons (pv 2) (pa_cons (pe_op op_cat (pe_slice (sl_listK (K := K) rfl) (pv 3) po_none (po_some (pv 6))) (pe_lst (pa_cons (pv 5) (pa_cons pe_non pa_nil)))) (pa_cons pe_non pa_nil))
    case a6 => exact fun _ _ _ _ _ _ _ => pa_cons (pv 2) (pa_cons (pe_op op_cat (pv 3) (pe_lst (pa_cons (pv 5) (pa_cons pe_non pa_nil)))) (pa_cons pe_non pa_nil))
    case a7 => exact fun _ _ _ _ _ _ _ => pa_cons (pv 2) (pa_cons (pv 8) (pa_cons pe_non pa_nil))
    obtain ⟨a, b, c3, ts, ef, ea, eb, tt, ec⟩ := hF
    have nl := dat.len
    have tl := dat.tree.len
    refine ⟨_, rfl, f, _, rfl, SqT.of (hw.get _ _ ef), rfl, _, _, rfl, _, _, rfl, _, _, rfl, rfl, ?_⟩
    dsimp only
    -- no village of anything
    refine ⟨(by show 0 ≤ sizeLine; decide), fun p1 h1 => ⟨(by show 0 ≤ sizeLine; decide), fun p2 h2 => fun p3 h3 => ⟨(by show 8 ≤ sizeLine; decide), fun l hl => ⟨l, rfl, ⟨_, SqL.of upd_same⟩, ?_⟩⟩⟩⟩
    have notbl : ∀ {o : HO}, (∃ xs, o = .lst xs) ∨ (∃ xs, o = .tup xs) ∨ (∃ ks, o = .dK ks) → ∀ ps, o ≠ .tbl ps := fun h ps z => by
      rcases h with ⟨_, rfl⟩ | ⟨_, rfl⟩ | ⟨_, rfl⟩ <;> cases z
    have new1 : ∀ {n : Nat} {G X : Hp} {p : Addr} {o : HO}, Wd Tb sp G n X → X p = none → ((∃ xs, o = .lst xs) ∨ (∃ xs, o = .tup xs) ∨ (∃ ks, o = .dK ks)) → GN sp (upd X p o) p = some o := fun hX hp ho => noT_of (del_of (hX.s.ne hp) upd_same) (notbl ho)
    have w1 := hw.same (same_new (o := .lst []) h1)
    have e1 := new1 (o := .lst []) hw h1 (.inl ⟨_, rfl⟩)
    generalize upd H p1 (.lst []) = H1 at w1 e1 h2 h3 hl ⊢
    have s2 : Same H1 (upd H1 p2 (.tup [])) := same_new h2
    have w2 := w1.same s2
    have e2 := new1 (o := .tup []) w1 h2 (.inr (.inl ⟨_, rfl⟩))
    generalize upd H1 p2 (.tup []) = H2 at s2 w2 e2 h3 hl ⊢
    have s3 : Same H2 (upd H2 p3 (.dK [])) := same_new h3
    have w3 := w2.same s3
    have e3 := new1 (o := .dK []) w2 h3 (.inr (.inr ⟨_, rfl⟩))
    generalize upd H2 p3 (.dK []) = H3 at s3 w3 e3 hl ⊢
    have s4 : Same H3 (upd H3 l (.lst [.non, .int 5, .str "ab", .ref p1, .ref p2, .ref p3, .bl true, .ref D.a_law_met])) := same_new hl
    have w4 := w3.same s4
    have e4 := new1 (o := .lst [.non, .int 5, .str "ab", .ref p1, .ref p2, .ref p3, .bl true, .ref D.a_law_met]) w3 hl (.inl ⟨_, rfl⟩)
    generalize upd H3 l (.lst [.non, .int 5, .str "ab", .ref p1, .ref p2, .ref p3, .bl true, .ref D.a_law_met]) = H4 at s4 w4 e4 ⊢
    have up : ∀ {A B : Hp}, Same A B → Same (GN sp A) (GN sp B) := fun s => noT_same (same_del s)
    have wb := w4.rebase
    have gG : Same G (GN sp H4) := w4.g
    refine for_it (walk_list (xs := [.non, .int 5, .str "ab", .ref p1, .ref p2, .ref p3, .bl true, .ref D.a_law_met])) (fun i σ X => Wd Tb sp (GN sp H4) n X ∧ ∃ v5, σ = [some (.ref sp), some (.ref f), some (.ref a), some (.ref b), some (.ref c3), v5, none, none, none, none])
      ⟨wb, none, rfl⟩ (fun i σ X _ p => SqL.of (p.1.get _ _ e4)) ?_ ?_
    · rintro i v σ X' X hi ⟨hW, v5, rfl⟩ ⟨rfl, hv⟩
      have bad : FBN K (GN sp H4) v (.int 0) := by
        match i, hv with
        | 0, hv => cases hv; exact .no .non rfl
        | 1, hv => cases hv; exact .no (.int 5) rfl
        | 2, hv => cases hv; exact .no (.str _) rfl
        | 3, hv => cases hv; exact .nil (.inl (SqL.of (up ((s2.trans s3).trans s4) _ _ e1)))
        | 4, hv => cases hv; exact .nil (.inr (SqT.of (up (s3.trans s4) _ _ e2)))
        | 5, hv => cases hv; exact .no (TyK.dK (up s4 _ _ e3)) rfl
        | 6, hv => cases hv; exact .no (.bl true) rfl
        | 7, hv => cases hv; obtain ⟨o, h1, h2⟩ := hmet; exact .no (.fn h1 h2) rfl
        | k + 8, hv => simp at hv
      refine ⟨hW.t, fun X1 eN T1 => ?_⟩
      have W1 := hW.ext eN T1
      refine ⟨_, rfl, _, rfl, _, rfl, refused_make (.inl ⟨bad.same W1.get, rfl⟩) (fun z => nomatch z) fun p X2 sX e => ?_⟩
      refine ⟨(by show 2 ≤ sizeLine; decide), fun t ht => ne_word (same_new ht _ _ e) upd_same (by decide +kernel) ⟨_, rfl, iteF ?_⟩⟩
      exact ⟨(W1.same sX).same (same_new ht), _, rfl⟩
    rintro σ X ⟨hW, v5, rfl⟩
    replace hW := hW.back gG (Nat.le_refl _)
    clear hw wb w4 w3 w2 w1 e1 e2 e3 e4 s2 s3 s4 gG hl h1 h2 h3
    dsimp only
    -- names that are none
    obtain ⟨n0, r0, er⟩ : ∃ n0 r0, ns = n0 :: r0 := by
      have := dat.ne
      generalize ns = l at this
      cases l with
      | nil => exact absurd rfl this
      | cons x y => exact ⟨x, y, rfl⟩
    have len0 : n0.length ≤ 1000 := (dat.good.1 n0 (by rw [er]; simp)).2
    refine ⟨_, rfl, a, n0, r0, rfl, by rw [← er]; exact SqL.of (hW.get _ _ ea), len0, fun p items H2 hp s2 e2 hl2 hall => ⟨p, rfl, ⟨_, SqL.of e2⟩, ?_⟩⟩
    have w2 := hW.same s2
    have psp : p ≠ sp := hW.s.ne hp
    have e2' : GN sp H2 p = some (.lst items) := noT_of (del_of psp e2) (notbl (.inl ⟨_, rfl⟩))
    have hall' : ∀ v ∈ items, OddN K (GN sp H2) n0 v := fun v hv => (hall v hv).same fun x o e => by
      obtain ⟨h1, h2⟩ := noT_in e
      obtain ⟨h3, h4⟩ := fr_in h1
      exact noT_of (del_of (hW.s.ne h3) h4) h2
    refine for_it (walk_list (xs := items)) (fun i σ X => i ≤ 20 ∧ (∃ n', n' ≤ n + i ∧ Wd Tb sp (GN sp H2) n' X) ∧ ∃ v5 v6, σ = [some (.ref sp), some (.ref f), some (.ref a), some (.ref b), some (.ref c3), v5, v6, none, none, none])
      ⟨Nat.zero_le _, ⟨n, Nat.le_refl _, w2.rebase⟩, v5, none, rfl⟩ (fun i σ X _ p => by obtain ⟨_, ⟨n', _, h⟩, _⟩ := p; exact SqL.of (h.get _ _ e2')) ?_ ?_
    · rintro i v σ X' X hi ⟨_, ⟨n', hn', hW2⟩, v5, v6, rfl⟩ ⟨rfl, hv⟩
      have hiv := hall' v (List.mem_of_getElem? hv)
      have ga : GN sp H2 a = some (.lst (ns.map V.str)) := w2.g _ _ ea
      refine ⟨_, rfl, _, rfl, a, _, rfl, .inl (SqL.of (hW2.get _ _ ga)), sp, _, n', rfl, hW2.s, by omega, by rw [List.length_map, er]; simp; omega, by rw [List.length_map]; omega, fun d L d0 d1 hL => ?_⟩
      have W1 : Wd Tb sp (GN sp H2) (n' + 1) (upd X sp (.lst L)) := hW2.frm frm_upd (spr_upd hL)
      generalize upd X sp (.lst L) = X1 at W1 ⊢
      obtain ⟨k, rfl⟩ := Int.eq_ofNat_of_zero_le d0
      rw [List.length_map] at d1
      have ek : (1 + (k : Int)) = ((k + 1 : Nat) : Int) := by omega
      refine ⟨_, _, rfl, rfl, ?_⟩
      dsimp only
      rw [ek]
      refine ⟨W1.t, fun X2 eN T2 => ?_⟩
      have W2 := W1.ext eN T2
      refine ⟨_, rfl, _, rfl, _, rfl, a, _, rfl, SqL.of (W2.get _ _ ga), fun q1 h1 => ?_⟩
      rw [cut_to _ (by rw [List.length_map]; omega)]
      have t3 : Same X2 (upd X2 q1 (.lst ((ns.map V.str).take (k + 1)))) := same_new h1
      have f1 : upd X2 q1 (.lst ((ns.map V.str).take (k + 1))) q1 = some (.lst ((ns.map V.str).take (k + 1))) := upd_same
      generalize upd X2 q1 (.lst ((ns.map V.str).take (k + 1))) = X3 at t3 f1 ⊢
      refine ⟨_, rfl, (by show 2 ≤ sizeLine; decide), fun q2 h2 => ?_⟩
      have t4 : Same X3 (upd X3 q2 (.lst [v, .non])) := same_new h2
      have f2 : upd X3 q2 (.lst [v, .non]) q2 = some (.lst [v, .non]) := upd_same
      generalize upd X3 q2 (.lst [v, .non]) = X4 at t4 f2 ⊢
      refine ⟨q1, q2, _, _, rfl, rfl, t4 _ _ f1, f2, Nat.le_of_lt (small5000 (by simp; omega)), fun q3 h3 => ?_⟩
      have t5 : Same X4 (upd X4 q3 (.lst ((ns.map V.str).take (k + 1) ++ [v, .non]))) := same_new h3
      have f3 : upd X4 q3 (.lst ((ns.map V.str).take (k + 1) ++ [v, .non])) q3 = some (.lst (((ns.take (k + 1)).map V.str) ++ v :: [.non])) := by rw [upd_same, List.map_take]
      generalize upd X4 q3 (.lst ((ns.map V.str).take (k + 1) ++ [v, .non])) = X5 at t5 f3 ⊢
      have W5 := W2.same ((t3.trans t4).trans t5)
      have lt : (ns.take (k + 1)).length = k + 1 := by rw [List.length_take]; omega
      refine refused_make (o := .int (ns.take (k + 1)).length) (.inl ⟨.bad (.inl (SqL.of f3)) (by omega) ⟨fun z hz => dat.good.1 z (List.mem_of_mem_take hz), dat.good.2.sublist (List.take_sublist _ _)⟩ ?_, rfl⟩) (fun z => nomatch z) fun p7 X6 sX e => ?_
      · obtain ⟨kk, ty, h⟩ := hiv.same W5.get
        refine ⟨kk, ty, h.imp id fun ⟨z, h1, h2, h3⟩ => ⟨z, h1, h2, h3.imp id fun e => ?_⟩⟩
        rw [e, er]; simp
      rw [lt] at e
      refine ⟨_, rfl, (by show 2 ≤ sizeLine; decide), fun t ht => ne_word (same_new ht _ _ e) upd_same (by decide +kernel) ⟨_, rfl, iteF ?_⟩⟩
      have hi20 : i < items.length := hi
      exact ⟨by omega, ⟨n' + 1, by omega, (W5.same sX).same (same_new ht)⟩, _, _, rfl⟩
    rintro σ X ⟨hi2, ⟨n2, hn2, hW2⟩, v5', v6', rfl⟩
    replace hW2 := hW2.back w2.g (Nat.le_refl _)
    clear w2 e2 e2' hall hall' hW psp hp s2
    dsimp only
    -- ties that are none, news that are none
    have hn2' : n2 ≤ n + 20 := by omega
    clear hi2 hn2
    have tpv : ∀ {X : Hp}, Same G X → PairsV K X ts es := fun s => ⟨tt.1, fun i v e h1 h2 => let ⟨p, x, y⟩ := (tt.same s).2 i v e h1 h2; ⟨p, x, .inr y⟩⟩
    refine fun p3 h3 => ⟨(by show 5 ≤ sizeLine; decide), fun l hl => ⟨l, rfl, ⟨_, SqL.of upd_same⟩, ?_⟩⟩
    have w3 := hW2.same (same_new (o := .dK []) h3)
    have e3 := new1 (o := .dK []) hW2 h3 (.inr (.inr ⟨_, rfl⟩))
    generalize upd X p3 (.dK []) = H3 at w3 e3 hl ⊢
    have s4 : Same H3 (upd H3 l (.lst [.non, .int 5, .str "ab", .ref p3, .bl true])) := same_new hl
    have w4 := w3.same s4
    have e4 := new1 (o := .lst [.non, .int 5, .str "ab", .ref p3, .bl true]) w3 hl (.inl ⟨_, rfl⟩)
    generalize upd H3 l (.lst [.non, .int 5, .str "ab", .ref p3, .bl true]) = H4 at s4 w4 e4 ⊢
    refine for_it (walk_list (xs := [.non, .int 5, .str "ab", .ref p3, .bl true])) (fun i σ X => Wd Tb sp (GN sp H4) n2 X ∧ ∃ v5 v6, σ = [some (.ref sp), some (.ref f), some (.ref a), some (.ref b), some (.ref c3), v5, v6, none, none, none])
      ⟨w4.rebase, v5', v6', rfl⟩ (fun i σ X _ p => SqL.of (p.1.get _ _ e4)) ?_ ?_
    · rintro i v σ X' X hi ⟨hW, v5, v6, rfl⟩ ⟨rfl, hv⟩
      have bad : ∃ k, TyK K (GN sp H4) v k ∧ isLT k = false := by
        match i, hv with
        | 0, hv => cases hv; exact ⟨.non, .non, rfl⟩
        | 1, hv => cases hv; exact ⟨.int, .int 5, rfl⟩
        | 2, hv => cases hv; exact ⟨.str, .str _, rfl⟩
        | 3, hv => cases hv; exact ⟨.dct, TyK.dK (up s4 _ _ e3), rfl⟩
        | 4, hv => cases hv; exact ⟨.bl, .bl true, rfl⟩
        | k + 5, hv => simp at hv
      obtain ⟨kk, ty, hk⟩ := bad
      refine ⟨hW.t, fun X1 eN T1 => ?_⟩
      have W1 := hW.ext eN T1
      have g1 : Same G X1 := w4.g.trans W1.get
      refine ⟨_, rfl, _, rfl, _, rfl, refused_make (o := .int 0) (.inr ⟨a, ns, rfl, .inl (SqL.of (g1 _ _ ea)), dat.good, dat.ne, by omega, .inl ⟨.inl ⟨kk, ty.ext W1.get, hk, rfl⟩, rfl⟩⟩) (fun z => nomatch z) fun p X2 sX e => ?_⟩
      refine ⟨(by show 2 ≤ sizeLine; decide), fun t ht => ne_word (same_new ht _ _ e) upd_same (by decide +kernel) ⟨_, rfl, iteF ?_⟩⟩
      have W2 := (W1.same sX).same (same_new (o := .tup [.str "ties", .int 0]) ht)
      generalize upd X2 t (.tup [.str "ties", .int 0]) = X3 at W2 ⊢
      dsimp only [tNext]
      refine ⟨W2.t, fun X4 eN2 T2 => ?_⟩
      have W4 := W2.ext eN2 T2
      have g4 : Same G X4 := w4.g.trans W4.get
      refine ⟨_, rfl, _, rfl, _, rfl, refused_make (o := .int 0) (.inr ⟨a, ns, rfl, .inl (SqL.of (g4 _ _ ea)), dat.good, dat.ne, by omega, .inr ⟨b, ts, es, rfl, .inl (SqL.of (g4 _ _ eb)), tpv g4, dat.tree.good, by omega, by omega, .inl ⟨kk, ty.ext W4.get, hk, rfl⟩, rfl⟩⟩) (fun z => nomatch z) fun p X5 sX5 e5 => ?_⟩
      refine ⟨(by show 2 ≤ sizeLine; decide), fun t5 ht5 => ne_word (same_new ht5 _ _ e5) upd_same (by decide +kernel) ⟨_, rfl, iteF ?_⟩⟩
      exact ⟨(W4.same sX5).same (same_new ht5), _, _, rfl⟩
    rintro σ X ⟨hW3, v5, v6, rfl⟩
    replace hW3 := hW3.back w4.g (Nat.le_refl _)
    clear hW2 w4 w3 e3 e4 s4 hl h3 v5' v6'
    dsimp only
    -- ties of nobody
    have n0m : n0 ∈ ns := by rw [er]; simp
    refine ⟨_, rfl, a, n0, r0, rfl, by rw [← er]; exact SqL.of (hW3.get _ _ ea), fun p items H2 hp s2 e2 hl2 hall => ⟨p, rfl, ⟨_, SqL.of e2⟩, ?_⟩⟩
    have w2 := hW3.same s2
    have e2' : GN sp H2 p = some (.lst items) := noT_of (del_of (hW3.s.ne hp) e2) (notbl (.inl ⟨_, rfl⟩))
    have hall' : ∀ v ∈ items, OddT K (GN sp H2) n0 v := fun v hv => (hall v hv).same fun x o e => by
      obtain ⟨h1, h2⟩ := noT_in e
      obtain ⟨h3, h4⟩ := fr_in h1
      exact noT_of (del_of (hW3.s.ne h3) h4) h2
    refine for_it (walk_list (xs := items)) (fun i σ X => i ≤ 20 ∧ (∃ n', n' ≤ n2 + i ∧ Wd Tb sp (GN sp H2) n' X) ∧ ∃ v5 v6, σ = [some (.ref sp), some (.ref f), some (.ref a), some (.ref b), some (.ref c3), v5, v6, none, none, none])
      ⟨Nat.zero_le _, ⟨n2, Nat.le_refl _, w2.rebase⟩, v5, v6, rfl⟩ (fun i σ X _ p => by obtain ⟨_, ⟨n', _, h⟩, _⟩ := p; exact SqL.of (h.get _ _ e2')) ?_ ?_
    · rintro i v σ X' X hi ⟨_, ⟨n', hn', hW2⟩, v5, v6, rfl⟩ ⟨rfl, hv⟩
      have hiv := hall' v (List.mem_of_getElem? hv)
      have ga : GN sp H2 a = some (.lst (ns.map V.str)) := w2.g _ _ ea
      have gb : GN sp H2 b = some (.lst ts) := w2.g _ _ eb
      have ttl := tt.1
      refine ⟨_, rfl, _, rfl, b, _, rfl, .inl (SqL.of (hW2.get _ _ gb)), _, _, rfl, rfl, sp, _, n', rfl, hW2.s, by omega, by omega, by omega, fun d L d0 d1 hL => ?_⟩
      have W1 : Wd Tb sp (GN sp H2) (n' + 1) (upd X sp (.lst L)) := hW2.frm frm_upd (spr_upd hL)
      generalize upd X sp (.lst L) = X1 at W1 ⊢
      obtain ⟨k, rfl⟩ := Int.eq_ofNat_of_zero_le d0
      refine ⟨W1.t, fun X2 eN T2 => ?_⟩
      have W2 := W1.ext eN T2
      refine ⟨_, rfl, _, rfl, _, rfl, _, rfl, b, _, rfl, SqL.of (W2.get _ _ gb), fun q1 h1 => ?_⟩
      rw [cut_to _ (by omega)]
      have t3 : Same X2 (upd X2 q1 (.lst (ts.take k))) := same_new h1
      have f1 : upd X2 q1 (.lst (ts.take k)) q1 = some (.lst (ts.take k)) := upd_same
      generalize upd X2 q1 (.lst (ts.take k)) = X3 at t3 f1 ⊢
      refine ⟨_, rfl, (by show 2 ≤ sizeLine; decide), fun q2 h2 => ?_⟩
      have t4 : Same X3 (upd X3 q2 (.lst [v, .non])) := same_new h2
      have f2 : upd X3 q2 (.lst [v, .non]) q2 = some (.lst [v, .non]) := upd_same
      generalize upd X3 q2 (.lst [v, .non]) = X4 at t4 f2 ⊢
      refine ⟨q1, q2, _, _, rfl, rfl, t4 _ _ f1, f2, Nat.le_of_lt (small5000 (by simp; omega)), fun q3 h3 => ?_⟩
      have t5 : Same X4 (upd X4 q3 (.lst (ts.take k ++ [v, .non]))) := same_new h3
      have f3 : upd X4 q3 (.lst (ts.take k ++ [v, .non])) q3 = some (.lst (ts.take k ++ v :: [.non])) := upd_same
      generalize upd X4 q3 (.lst (ts.take k ++ [v, .non])) = X5 at t5 f3 ⊢
      have W5 := W2.same ((t3.trans t4).trans t5)
      have lt : (es.take k).length = k := by rw [List.length_take]; omega
      have g5 : Same G X5 := w2.g.trans W5.get
      have pk : PairsV K X5 (ts.take k) (es.take k) := ⟨by rw [(tt.take k).1], fun i v e h1 h2 => let ⟨p, x, y⟩ := ((tt.take k).same g5).2 i v e h1 h2; ⟨p, x, .inr y⟩⟩
      refine refused_make (o := .int (es.take k).length) (.inr ⟨a, ns, rfl, .inl (SqL.of (g5 _ _ ea)), dat.good, dat.ne, by omega, .inl ⟨.inr ⟨q3, ts.take k, es.take k, v :: [.non], rfl, .inl (SqL.of f3), pk, goodT_take dat.tree.good k, by omega, (fun z => nomatch z), fun b r z => ?_⟩, rfl⟩⟩) (fun z => nomatch z) fun p7 X6 sX e => ?_
      · cases z
        exact ⟨(hiv.same W5.get).bad n0m dat.nn, rfl⟩
      rw [lt] at e
      refine ⟨_, rfl, (by show 2 ≤ sizeLine; decide), fun t ht => ne_word (same_new ht _ _ e) upd_same (by decide +kernel) ⟨_, rfl, iteF ?_⟩⟩
      have hi20 : i < items.length := hi
      exact ⟨by omega, ⟨n' + 1, by omega, (W5.same sX).same (same_new ht)⟩, _, _, rfl⟩
    rintro σ X ⟨hi2, ⟨n3, hn3, hW4⟩, v5', v6', rfl⟩
    replace hW4 := hW4.back w2.g (Nat.le_refl _)
    have hn3' : n3 ≤ n + 40 := by omega
    clear hi2 hn3 w2 e2 e2' hall hall' hW3 hp s2
    dsimp only
    -- ties that close a ring
    have ttl := tt.1
    refine ⟨_, rfl, _, rfl, b, rfl, ⟨_, SqL.of (hW4.get _ _ eb)⟩, fun L hL => ?_⟩
    have Lsp := hW4.s.ne hL
    refine lc_it (walk_list (xs := ts)) (fun i Y => i ≤ es.length ∧ Same X Y ∧ ∃ acc, Y L = some (.lst acc) ∧ TupsAt K (del (GN sp Y) L) acc ((es.take i).map fun e => (e.2, e.1))) ⟨Nat.zero_le _, same_new hL, [], upd_same, rfl, fun i v e h => by simp at h⟩ (fun i Y _ p => SqL.of (p.2.1 _ _ (hW4.get _ _ eb))) (fun i v Y0 Y hi p yy => ?_) fun Y p => ?_
    · obtain ⟨rfl, hv⟩ := yy
      obtain ⟨_, sY, acc, eL, hacc⟩ := p
      rw [ttl] at hi
      have wY := hW4.same sY
      obtain ⟨e, he⟩ : ∃ e, es[i]? = some e := ⟨es[i], by simp [hi]⟩
      obtain ⟨q0, rfl, hq0⟩ := (tt.same wY.get).2 i v e hv he
      refine ⟨rfl, _, rfl, q0, _, _, rfl, hq0, fun q1 h1 => ?_⟩
      have Lq : L ≠ q1 := ne_of_none eL h1
      have ha := hacc.1
      simp at ha
      refine ⟨acc, by rw [upd_ne Lq]; exact eL, small5000 (by omega), hi, same_upd (Same.new' sY h1) hL, acc ++ [.ref q1], upd_same, ?_⟩
      rw [delGN_upd, take_snoc he, List.map_append]
      have nq := new1 (o := .tup [.str e.2, .str e.1]) wY h1 (.inr (.inl ⟨_, rfl⟩))
      exact (hacc.same (same_del (up (same_new h1)))).snoc (e := (e.2, e.1)) (SqT.of (del_of Lq.symm nq))
    obtain ⟨_, sY, acc, eL, hacc⟩ := p
    rw [ttl, List.take_length] at hacc
    have wY := hW4.same sY
    have ha := hacc.1
    simp at ha
    refine ⟨b, L, _, _, rfl, rfl, wY.get _ _ eb, eL, Nat.le_of_lt (small5000 (by omega)), fun l hl => ⟨l, rfl, ⟨_, SqL.of upd_same⟩, ?_⟩⟩
    have s5 : Same Y (upd Y l (.lst (ts ++ acc))) := same_new hl
    have w5 := wY.same s5
    have e5 := new1 (o := .lst (ts ++ acc)) wY hl (.inl ⟨_, rfl⟩)
    have rings : ∀ v ∈ ts ++ acc, ∃ e, TupAt K (GN sp (upd Y l (.lst (ts ++ acc)))) v e ∧ (e ∈ es ∨ (e.2, e.1) ∈ es) := fun v hv => by
      rcases List.mem_append.mp hv with hv | hv
      · obtain ⟨j, hj⟩ := List.getElem?_of_mem hv
        have hj2 : j < es.length := by rw [← ttl]; exact (List.getElem?_eq_some_iff.mp hj).1
        exact ⟨es[j], (tt.same w5.g).2 j v es[j] hj (by simp [hj2]), .inl (List.getElem_mem hj2)⟩
      · obtain ⟨j, hj⟩ := List.getElem?_of_mem hv
        have hj2 : j < es.length := by rw [← ha]; exact (List.getElem?_eq_some_iff.mp hj).1
        exact ⟨(es[j].2, es[j].1), ((hacc.same del_le).same (up s5)).2 j v (es[j].2, es[j].1) hj (by simp [hj2]), .inr (List.getElem_mem hj2)⟩
    generalize upd Y l (.lst (ts ++ acc)) = H5 at s5 w5 e5 rings ⊢
    refine for_it (walk_list (xs := ts ++ acc)) (fun i σ X => Wd Tb sp (GN sp H5) n3 X ∧ ∃ v5 v6, σ = [some (.ref sp), some (.ref f), some (.ref a), some (.ref b), some (.ref c3), v5, v6, none, none, none])
      ⟨w5.rebase, v5', v6', rfl⟩ (fun i σ X _ p => SqL.of (p.1.get _ _ e5)) ?_ ?_
    · rintro i v σ X' X hi ⟨hW, v5, v6, rfl⟩ ⟨rfl, hv⟩
      obtain ⟨e, te, me⟩ := rings v (List.mem_of_getElem? hv)
      refine ⟨hW.t, fun X2 eN T2 => ?_⟩
      have W2 := hW.ext eN T2
      have gb : GN sp H5 b = some (.lst ts) := w5.g _ _ eb
      refine ⟨_, rfl, _, rfl, _, rfl, (by show 2 ≤ sizeLine; decide), fun q2 h2 => ?_⟩
      have t4 : Same X2 (upd X2 q2 (.lst [v, .non])) := same_new h2
      have f2 : upd X2 q2 (.lst [v, .non]) q2 = some (.lst [v, .non]) := upd_same
      generalize upd X2 q2 (.lst [v, .non]) = X4 at t4 f2 ⊢
      refine ⟨b, q2, _, _, rfl, rfl, t4 _ _ (W2.get _ _ gb), f2, Nat.le_of_lt (small5000 (by simp; omega)), fun q3 h3 => ?_⟩
      have t5 : Same X4 (upd X4 q3 (.lst (ts ++ [v, .non]))) := same_new h3
      have f3 : upd X4 q3 (.lst (ts ++ [v, .non])) q3 = some (.lst (ts ++ v :: [.non])) := upd_same
      generalize upd X4 q3 (.lst (ts ++ [v, .non])) = X5 at t5 f3 ⊢
      have W5 := W2.same (t4.trans t5)
      have g5 : Same G X5 := w5.g.trans W5.get
      refine refused_make (o := .int es.length) (.inr ⟨a, ns, rfl, .inl (SqL.of (g5 _ _ ea)), dat.good, dat.ne, by omega, .inl ⟨.inr ⟨q3, ts, es, v :: [.non], rfl, .inl (SqL.of f3), tpv g5, dat.tree.good, by omega, (fun z => nomatch z), fun b r z => ?_⟩, rfl⟩⟩) (fun z => nomatch z) fun p7 X6 sX e => ?_
      · cases z
        have t := te
        obtain ⟨pa, e1, e2⟩ := t
        have te5 : TupAt K X5 v e := ⟨pa, e1, SqT.same W5.get e2⟩
        rcases me with me | me
        · exact ⟨tup_bad te5 (dat.tree.mem e me).1 (dat.tree.mem e me).2 (lab_edge es e me), rfl⟩
        · exact ⟨tup_bad te5 (dat.tree.mem _ me).2 (dat.tree.mem _ me).1 (lab_edge es _ me).symm, rfl⟩
      rw [← ttl] at e
      refine ⟨_, rfl, b, _, rfl, .inl (SqL.of (sX _ _ (g5 _ _ eb))), (by show 2 ≤ sizeLine; decide), fun t ht => ne_word (same_new ht _ _ e) upd_same (by decide +kernel) ⟨_, rfl, iteF ?_⟩⟩
      exact ⟨(W5.same sX).same (same_new ht), _, _, rfl⟩
    rintro σ X ⟨hW5, v5, v6, rfl⟩
    replace hW5 := hW5.back w5.g (Nat.le_refl _)
    clear hW4 wY w5 e5 rings hacc eL sY hl hL v5' v6'
    dsimp only
    -- a tie too few
    refine ⟨_, rfl, b, _, rfl, .inl (SqL.of (hW5.get _ _ eb)), _, rfl, by omega, by omega, ?_⟩
    refine for_it walk_range (fun i σ Z => Wd Tb sp G n3 Z ∧ ∃ v5 v6 v7 v8, σ = [some (.ref sp), some (.ref f), some (.ref a), some (.ref b), some (.ref c3), v5, v6, v7, v8, none])
      ⟨hW5, v5, v6, none, none, rfl⟩ (fun _ _ _ _ _ => trivial) ?_ ?_
    · rintro i v σ Z' Z hi ⟨hW, v5, v6, v7, v8, rfl⟩ ⟨rfl, rfl⟩
      have hi2 : i < ts.length := hi
      have gb := hW.get _ _ eb
      refine ⟨_, rfl, _, rfl, _, rfl, b, _, rfl, SqL.of gb, fun q1 h1 => ?_⟩
      dsimp only
      rw [Int.zero_add, cut_to _ (by omega)]
      have t3 : Same Z (upd Z q1 (.lst (ts.take i))) := same_new h1
      have f1 : upd Z q1 (.lst (ts.take i)) q1 = some (.lst (ts.take i)) := upd_same
      generalize upd Z q1 (.lst (ts.take i)) = X3 at t3 f1 ⊢
      refine ⟨_, rfl, _, rfl, _, _, rfl, rfl, _, rfl, b, _, rfl, SqL.of (t3 _ _ gb), fun q2 h2 => ?_⟩
      have ei : ((i : Int) + 1) = ((i + 1 : Nat) : Int) := by omega
      rw [ei, cut_from _ (by omega)]
      have t4 : Same X3 (upd X3 q2 (.lst (ts.drop (i + 1)))) := same_new h2
      have f2 : upd X3 q2 (.lst (ts.drop (i + 1))) q2 = some (.lst (ts.drop (i + 1))) := upd_same
      generalize upd X3 q2 (.lst (ts.drop (i + 1))) = X4 at t4 f2 ⊢
      refine ⟨q1, q2, _, _, rfl, rfl, t4 _ _ f1, f2, Nat.le_of_lt (small5000 (by simp; omega)), fun q3 h3 => ?_⟩
      have t5 : Same X4 (upd X4 q3 (.lst (ts.take i ++ ts.drop (i + 1)))) := same_new h3
      have W5' := ((hW.same t3).same t4)
      have f3 := new1 (o := .lst (ts.take i ++ ts.drop (i + 1))) W5' h3 (.inl ⟨_, rfl⟩)
      have W5 := W5'.same t5
      generalize upd X4 q3 (.lst (ts.take i ++ ts.drop (i + 1))) = X5 at t5 f3 W5 ⊢
      have W5r := W5.rebase
      dsimp only
      refine ⟨W5r.t, fun X6 eN T6 => ?_⟩
      have W6 := W5r.ext eN T6
      have g6 : Same G X6 := W5.g.trans W6.get
      have tt' : TupsAt K G (ts.take i ++ ts.drop (i + 1)) (es.take i ++ es.drop (i + 1)) := (tt.take i).app (tt.drop (i + 1))
      have pk : PairsV K X6 (ts.take i ++ ts.drop (i + 1)) (es.take i ++ es.drop (i + 1)) := ⟨tt'.1, fun i v e h1 h2 => let ⟨p, x, y⟩ := (tt'.same g6).2 i v e h1 h2; ⟨p, x, .inr y⟩⟩
      have le : (es.take i ++ es.drop (i + 1)).length = es.length - 1 := by simp; omega
      refine ⟨_, rfl, _, rfl, refused_make (o := .int (es.take i ++ es.drop (i + 1)).length) (.inr ⟨a, ns, rfl, .inl (SqL.of (g6 _ _ ea)), dat.good, dat.ne, by omega, .inl ⟨.inr ⟨q3, _, _, [], rfl, by rw [List.append_nil]; exact .inl (SqL.of (W6.get _ _ f3)), pk, goodT_less dat.tree (by omega), by omega, (fun _ => ?_), fun b r z => (nomatch z)⟩, rfl⟩⟩) (fun z => nomatch z) fun p7 X7 sX e => ?_⟩
      · rw [if_pos (by rw [le]; omega)]
      rw [← tt'.1] at e
      refine ⟨_, rfl, q3, _, rfl, .inl (SqL.of (sX _ _ (W6.get _ _ f3))), (by show 2 ≤ sizeLine; decide), fun t ht => ne_word (same_new ht _ _ e) upd_same (by decide +kernel) ⟨_, rfl, iteF ?_⟩⟩
      exact ⟨((W6.same sX).same (same_new ht)).back W5.g (Nat.le_refl _), _, _, _, _, rfl⟩
    rintro σ Z ⟨hW6, v5, v6, v7, v8, rfl⟩
    dsimp only
    refine ⟨_, rfl, _, rfl, sp, f, n3, G, ns, es, ws, rfl, hW6, by omega, ⟨a, b, c3, ts, ef, ea, eb, tt, ec⟩, dat, fun Z1 n4 h4 W7 => ?_⟩
    exact ⟨_, rfl, iteT ⟨_, rfl, _, rfl, sp, f, n4, G, ns, es, ws, rfl, W7, by omega, ⟨a, b, c3, ts, ef, ea, eb, tt, ec⟩, dat, fun Z2 n5 h5 W8 => q Z2 n5 (by omega) W8⟩⟩
end
end HS

set_option maxHeartbeats 4000000
namespace HS
open PySem PySem.Spec L2
abbrev NN : List Str := ["spring", "form", "names", "ties", "news", "odd", "at", "found"]
theorem sc_news : FnScope NN ["spring", "form"] (defScope s_law_news_right) := ⟨rfl, rfl, rfl, by decide +kernel, rfl, by decide +kernel, by decide +kernel⟩
section
variable {P : Program} {w : World} {K : PySem.W.Frag} {mg : Str → Option Value} {base : Heap} {D : Ads}
theorem ok_news (T : Txt K mg D) {Tb : List (Addr × Str)} {c Pt : Addr} (hc : D.d_law_news_right.code = .ref c) (TB : LamX.TabB base mg c Pt) (hmT : (Pt, ("_law_news_right.<locals>.<lambda>" : Str)) ∈ Tb) (hu : ∀ p ∈ Tb, p.1 = Pt → p.2 = "_law_news_right.<locals>.<lambda>") :
    FnOk P w K mg base CX0 9 D.a_law_news_right D.d_law_news_right ["spring", "form"] (sp_ref K Tb 1000) := by
  have G1 : FnOk P w K mg base CX0 1 D.a_law_draw D.d_law_draw ["spring", "many"] sp_draw := ok_draw T
  have nd := sc_news.nd
  refine okC T.F_law_news_right hc sc_news (fun vs H Q E h => ?_) (fun A outer s H vs Q E hr h => ?_)
  · obtain ⟨sp, f, n, G, ns, es, ws, rfl, _⟩ := h
    rfl
  · obtain ⟨sp, f, n, G, ns, es, ws, rfl, hw, hn, ⟨a, b, c3, ts, ef, ea, eb, tt, ec⟩, dat, q⟩ := h
    have hr8 : Room 8 _ := hr
    have hr1 : Room 1 _ := hr.mono (by decide)
    have hun := hr.units
    refine' ⟨_, pss_cons (ps_asg (pv 1) (pg_tup (by rfl) (pgs_cons (pg_name (i := 2) nd rfl (Or.inr rfl)) (pgs_cons (pg_name (i := 3) nd rfl (Or.inr rfl)) (pgs_cons (pg_name (i := 4) nd rfl (Or.inr rfl)) pgs_nil)))))
      (pss_cons (ps_for PassesOwn.never rfl (pi_list (pe_lst (pa_cons pe_non (pa_cons pe_int (pa_cons pe_neg1 (pa_cons pe_bl (pa_cons pe_str (pa_cons (pe_lst (pa_cons pe_int pa_nil)) (pa_cons pe_dnewK (pa_cons (pe_tup (pa_cons pe_int pa_nil)) pa_nil)))))))))) (pg_name (i := 5) nd rfl (Or.inr rfl)) (pss_cons (ps_set (i := 6) nd rfl (Or.inr rfl) (pe_call G1 hr1 rfl T.g_law_draw T.F_law_draw.kp T.b_law_draw .nil pass0 (pa_cons (pv 0) (pa_cons (pe_callB call_len_seq (by rfl) T.z_len PySem.boot_len (pa_cons (pv 2) pa_nil)) pa_nil)))) (pss_cons (ps_if (pt_cmpR (op_neD hun) (pe_met T rfl rfl (by rfl) TB rfl hmT hu hr8 (LamX.lamS_by (sc := defScope s_law_news_right) (by decide +kernel)) rfl (fun _ _ _ _ _ => rfl) rfl rfl rfl rfl ?a1 (fun _ _ _ _ _ _ _ => rfl) (fun _ _ _ _ _ _ _ => rfl)) (pe_tup (pa_cons pe_str (pa_cons (pv 6) pa_nil))) (nomark _)) pss_no pss_nil) (pss_one (ps_if (pt_cmpR (op_neD hun) (pe_met T rfl rfl (by rfl) TB rfl hmT hu hr8 (LamX.lamS_by (sc := defScope s_law_news_right) (by decide +kernel)) rfl (fun _ _ _ _ _ => rfl) rfl rfl rfl rfl ?a2 (fun _ _ _ _ _ _ _ => rfl) (fun _ _ _ _ _ _ _ => rfl)) (pe_tup (pa_cons pe_str (pa_cons (pe_callB call_len_seq (by rfl) T.z_len PySem.boot_len (pa_cons (pv 2) pa_nil)) pa_nil))) (nomark _)) pss_no pss_nil)))))
      (pss_cons (ps_setLc (i := 7) (own := [("at", 6)]) (g := gName 6) (tt := tYes) rfl nd rfl rfl (sw_true rfl rfl rfl (by decide +kernel)) (pi_range1 (by rfl) T.z_range (pa_cons (pe_callB call_len_seq (by rfl) T.z_len PySem.boot_len (pa_cons (pv 4) pa_nil)) pa_nil)) (blkOk_by (N := NN) (sc := defScope s_law_news_right) (by decide +kernel)) (fun _ _ _ _ _ => pg_name (i := 6) nd rfl (Or.inr rfl)) (fun _ _ _ _ _ => pts_nil) ?inner)
      (pss_cons (ps_expr (pe_bm PySem.F.plainAttrs_list PySem.F.slot_list_append PySem.F.type_list_append mt_append (pv 7) (pa_cons (pe_met T rfl rfl (by rfl) TB rfl hmT hu hr8 (LamX.lamS_by (sc := defScope s_law_news_right) (by decide +kernel)) rfl (fun _ _ _ _ _ => rfl) rfl rfl rfl rfl ?a4 (fun _ _ _ _ _ _ _ => rfl) (fun _ _ _ _ _ _ _ => rfl)) pa_nil)))
      (pss_one (ps_ret (pe_cmpR (op_eqD hun) (pv 7) (pe_op op_cat (pe_lc (own := [("at", 6)]) (g := gName 6) (tt := tYes) rfl nd (pi_range1 (by rfl) T.z_range (pa_cons (pe_callB call_len_seq (by rfl) T.z_len PySem.boot_len (pa_cons (pv 4) pa_nil)) pa_nil)) (blkOk_by (N := NN) (sc := defScope s_law_news_right) (by decide +kernel)) (fun _ _ _ _ _ => pg_name (i := 6) nd rfl (Or.inl rfl)) (fun _ _ _ _ _ => pts_nil) (fun _ _ _ _ _ => pe_tup (pa_cons pe_str (pa_cons (pv 6) pa_nil)))) (pe_lst (pa_cons (pe_tup (pa_cons pe_str (pa_cons (pe_callB call_len_seq (by rfl) T.z_len PySem.boot_len (pa_cons (pv 2) pa_nil)) pa_nil))) pa_nil))) (nomark _))))))), ?_⟩
    case inner => exact fun _ _ _ _ _ => pe_met T rfl rfl (by rfl) TB rfl hmT hu hr8 (LamX.lamS_by (by rfl)) rfl (fun _ _ _ _ _ => rfl) rfl rfl rfl rfl (ta := tCons (tVar 2) (tCons (tVar 3) (tCons (tSl (rSlL K) (tVar 4) tNoPart (tPart (tVar 6))) tNil))) (fun _ _ _ _ _ _ _ => pa_cons (pv 2) (pa_cons (pv 3) (pa_cons (pe_slice (sl_listK (K := K) rfl) (pv 4) po_none (po_some (pv 6))) pa_nil))) (fun _ _ _ _ _ _ _ => rfl) (fun _ _ _ _ _ _ _ => rfl)
    case a1 => exact fun _ _ _ _ _ _ _ => pa_cons (pv 2) (pa_cons (pv 3) (pa_cons (pe_op op_cat (pe_op op_cat (pe_slice (sl_listK (K := K) rfl) (pv 4) po_none (po_some (pv 6))) (pe_lst (pa_cons (pv 5) pa_nil))) (pe_slice (sl_listK (K := K) rfl) (pv 4) (po_some (pe_op op_add (pv 6) pe_int)) po_none)) pa_nil))
    case a2 => exact fun _ _ _ _ _ _ _ => pa_cons (pv 2) (pa_cons (pv 3) (pa_cons (pe_op op_cat (pv 4) (pe_lst (pa_cons (pv 5) (pa_cons (pv 5) pa_nil)))) pa_nil))
    case a4 => exact fun _ _ _ _ _ _ _ => pa_cons (pv 2) (pa_cons (pv 3) (pa_cons (pe_op op_cat (pv 4) (pe_lst (pa_cons pe_int pa_nil))) pa_nil))
    have nl := dat.len
    have tl := dat.tree.len
    have wl := dat.wl
    have ttl := tt.1
    have notbl : ∀ {o : HO}, (∃ xs, o = .lst xs) ∨ (∃ xs, o = .tup xs) ∨ (∃ ks, o = .dK ks) → ∀ ps, o ≠ .tbl ps := fun h ps z => by
      rcases h with ⟨_, rfl⟩ | ⟨_, rfl⟩ | ⟨_, rfl⟩ <;> cases z
    have new1 : ∀ {n : Nat} {G X : Hp} {p : Addr} {o : HO}, Wd Tb sp G n X → X p = none → ((∃ xs, o = .lst xs) ∨ (∃ xs, o = .tup xs) ∨ (∃ ks, o = .dK ks)) → GN sp (upd X p o) p = some o := fun hX hp ho => noT_of (del_of (hX.s.ne hp) upd_same) (notbl ho)
    have up : ∀ {A B : Hp}, Same A B → Same (GN sp A) (GN sp B) := fun s => noT_same (same_del s)
    have tpv : ∀ {X : Hp}, Same G X → PairsV K X ts es := fun s => ⟨tt.1, fun i v e h1 h2 => let ⟨p, x, y⟩ := (tt.same s).2 i v e h1 h2; ⟨p, x, .inr y⟩⟩
    have good : ∀ {X : Hp} {v o : V}, Same G X → FBA K X ns.length v o → Refused K X (.ref a) (.ref b) v "news" o := fun g fa => .inr ⟨a, ns, rfl, .inl (SqL.of (g _ _ ea)), dat.good, dat.ne, by omega, .inr ⟨b, ts, es, rfl, .inl (SqL.of (g _ _ eb)), tpv g, dat.tree.good, by omega, by omega, fa, rfl⟩⟩
    refine ⟨_, rfl, f, _, rfl, SqT.of (hw.get _ _ ef), rfl, _, _, rfl, _, _, rfl, _, _, rfl, rfl, ?_⟩
    dsimp only
    refine ⟨(by show 1 ≤ sizeLine; decide), fun p1 h1 => fun p2 h2 => ⟨(by show 1 ≤ sizeLine; decide), fun p3 h3 => ⟨(by show 8 ≤ sizeLine; decide), fun l hl => ⟨l, rfl, ⟨_, SqL.of upd_same⟩, ?_⟩⟩⟩⟩
    have w1 := hw.same (same_new (o := .lst [.int 1]) h1)
    have e1 := new1 (o := .lst [.int 1]) hw h1 (.inl ⟨_, rfl⟩)
    generalize upd H p1 (.lst [.int 1]) = H1 at w1 e1 h2 h3 hl ⊢
    have s2 : Same H1 (upd H1 p2 (.dK [])) := same_new h2
    have w2 := w1.same s2
    have e2 := new1 (o := .dK []) w1 h2 (.inr (.inr ⟨_, rfl⟩))
    generalize upd H1 p2 (.dK []) = H2 at s2 w2 e2 h3 hl ⊢
    have s3 : Same H2 (upd H2 p3 (.tup [.int 1])) := same_new h3
    have w3 := w2.same s3
    have e3 := new1 (o := .tup [.int 1]) w2 h3 (.inr (.inl ⟨_, rfl⟩))
    generalize upd H2 p3 (.tup [.int 1]) = H3 at s3 w3 e3 hl ⊢
    have s4 : Same H3 (upd H3 l (.lst [.non, .int 0, .int (-1), .bl true, .str "1", .ref p1, .ref p2, .ref p3])) := same_new hl
    have w4 := w3.same s4
    have e4 := new1 (o := .lst [.non, .int 0, .int (-1), .bl true, .str "1", .ref p1, .ref p2, .ref p3]) w3 hl (.inl ⟨_, rfl⟩)
    generalize upd H3 l (.lst [.non, .int 0, .int (-1), .bl true, .str "1", .ref p1, .ref p2, .ref p3]) = H4 at s4 w4 e4 ⊢
    refine for_it (walk_list (xs := [.non, .int 0, .int (-1), .bl true, .str "1", .ref p1, .ref p2, .ref p3])) (fun i σ X => i ≤ 8 ∧ (∃ n', n' ≤ n + i ∧ Wd Tb sp (GN sp H4) n' X) ∧ ∃ v5 v6, σ = [some (.ref sp), some (.ref f), some (.ref a), some (.ref b), some (.ref c3), v5, v6, none])
      ⟨Nat.zero_le _, ⟨n, Nat.le_refl _, w4.rebase⟩, none, none, rfl⟩ (fun i σ X _ p => by obtain ⟨_, ⟨n', _, h⟩, _⟩ := p; exact SqL.of (h.get _ _ e4)) ?_ ?_
    · rintro i v σ X' X hi ⟨_, ⟨n', hn', hW⟩, v5, v6, rfl⟩ ⟨rfl, hv⟩
      have bad : ∃ k, TyK K (GN sp H4) v k ∧ (k ≠ .int ∨ ∃ i, v = .int i ∧ i < 1) := by
        match i, hv with
        | 0, hv => cases hv; exact ⟨.non, .non, .inl (by decide)⟩
        | 1, hv => cases hv; exact ⟨.int, .int 0, .inr ⟨0, rfl, by decide⟩⟩
        | 2, hv => cases hv; exact ⟨.int, .int _, .inr ⟨-1, rfl, by decide⟩⟩
        | 3, hv => cases hv; exact ⟨.bl, .bl true, .inl (by decide)⟩
        | 4, hv => cases hv; exact ⟨.str, .str _, .inl (by decide)⟩
        | 5, hv => cases hv; exact ⟨.lst, TyK.seqL (SqL.of (up ((s2.trans s3).trans s4) _ _ e1)), .inl (by decide)⟩
        | 6, hv => cases hv; exact ⟨.dct, TyK.dK (up (s3.trans s4) _ _ e2), .inl (by decide)⟩
        | 7, hv => cases hv; exact ⟨.tup, TyK.seqT (SqT.of (up s4 _ _ e3)), .inl (by decide)⟩
        | k + 8, hv => simp at hv
      obtain ⟨kk, ty, hk⟩ := bad
      have ga : GN sp H4 a = some (.lst (ns.map V.str)) := w4.g _ _ ea
      have gc : GN sp H4 c3 = some (.lst (ws.map V.int)) := w4.g _ _ ec
      refine ⟨_, rfl, _, rfl, a, _, rfl, .inl (SqL.of (hW.get _ _ ga)), sp, _, n', rfl, hW.s, by omega, by rw [List.length_map]; omega, by rw [List.length_map]; omega, fun d L d0 d1 hL => ?_⟩
      have W1 : Wd Tb sp (GN sp H4) (n' + 1) (upd X sp (.lst L)) := hW.frm frm_upd (spr_upd hL)
      generalize upd X sp (.lst L) = X1 at W1 ⊢
      obtain ⟨k, rfl⟩ := Int.eq_ofNat_of_zero_le d0
      rw [List.length_map] at d1
      refine ⟨W1.t, fun X2 eN T2 => ?_⟩
      have W2 := W1.ext eN T2
      refine ⟨_, rfl, _, rfl, _, rfl, _, rfl, _, rfl, c3, _, rfl, SqL.of (W2.get _ _ gc), fun q1 h1 => ?_⟩
      rw [cut_to _ (by rw [List.length_map]; omega)]
      have t3 : Same X2 (upd X2 q1 (.lst ((ws.map V.int).take k))) := same_new h1
      have f1 : upd X2 q1 (.lst ((ws.map V.int).take k)) q1 = some (.lst ((ws.map V.int).take k)) := upd_same
      generalize upd X2 q1 (.lst ((ws.map V.int).take k)) = X3 at t3 f1 ⊢
      refine ⟨_, rfl, (by show 1 ≤ sizeLine; decide), fun q2 h2 => ?_⟩
      have t4 : Same X3 (upd X3 q2 (.lst [v])) := same_new h2
      have f2 : upd X3 q2 (.lst [v]) q2 = some (.lst [v]) := upd_same
      generalize upd X3 q2 (.lst [v]) = X4 at t4 f2 ⊢
      refine ⟨q1, q2, _, _, rfl, rfl, t4 _ _ f1, f2, Nat.le_of_lt (small5000 (by simp; omega)), fun q3 h3 => ?_⟩
      have t5 : Same X4 (upd X4 q3 (.lst ((ws.map V.int).take k ++ [v]))) := same_new h3
      have f3 : upd X4 q3 (.lst ((ws.map V.int).take k ++ [v])) q3 = some (.lst ((ws.map V.int).take k ++ [v])) := upd_same
      generalize upd X4 q3 (.lst ((ws.map V.int).take k ++ [v])) = X5 at t5 f3 ⊢
      have W5 := W2.same ((t3.trans t4).trans t5)
      refine ⟨_, rfl, _, rfl, _, _, rfl, rfl, _, rfl, c3, _, rfl, SqL.of (W5.get _ _ gc), fun q4 h4 => ?_⟩
      have ei : ((k : Int) + 1) = ((k + 1 : Nat) : Int) := by omega
      rw [ei, cut_from _ (by rw [List.length_map]; omega)]
      have t6 : Same X5 (upd X5 q4 (.lst ((ws.map V.int).drop (k + 1)))) := same_new h4
      have f4 : upd X5 q4 (.lst ((ws.map V.int).drop (k + 1))) q4 = some (.lst ((ws.map V.int).drop (k + 1))) := upd_same
      generalize upd X5 q4 (.lst ((ws.map V.int).drop (k + 1))) = X6 at t6 f4 ⊢
      refine ⟨q3, q4, _, _, rfl, rfl, t6 _ _ f3, f4, Nat.le_of_lt (small5000 (by simp; omega)), fun q5 h5 => ?_⟩
      have t7 : Same X6 (upd X6 q5 (.lst ((ws.map V.int).take k ++ [v] ++ (ws.map V.int).drop (k + 1)))) := same_new h5
      have f5 : upd X6 q5 (.lst ((ws.map V.int).take k ++ [v] ++ (ws.map V.int).drop (k + 1))) q5 = some (.lst ((ws.take k).map V.int ++ v :: (ws.map V.int).drop (k + 1))) := by rw [upd_same, List.map_take, List.append_assoc]; rfl
      generalize upd X6 q5 (.lst ((ws.map V.int).take k ++ [v] ++ (ws.map V.int).drop (k + 1))) = X7 at t7 f5 ⊢
      have W7 := W5.same (t6.trans t7)
      have g7 : Same G X7 := w4.g.trans W7.get
      have lt : (ws.take k).length = k := by rw [List.length_take]; omega
      refine refused_make (o := .int (ws.take k).length) (good g7 (.inr ⟨q5, ws.take k, v :: (ws.map V.int).drop (k + 1), rfl, .inl (SqL.of f5), by omega, by omega, fun x hx => dat.w1 x (List.mem_of_mem_take hx), (fun z => nomatch z), fun b r z => ?_⟩)) (fun z => nomatch z) fun p7 X8 sX e => ?_
      · cases z
        exact ⟨fun _ => ⟨kk, ty.ext W7.get, hk⟩, rfl⟩
      rw [lt] at e
      refine ⟨_, rfl, (by show 2 ≤ sizeLine; decide), fun t ht => ne_word (same_new ht _ _ e) upd_same (by decide +kernel) ⟨_, rfl, iteF ?_⟩⟩
      have W8 := (W7.same sX).same (same_new (o := .tup [.str "news", .int k]) ht)
      generalize upd X8 t (.tup [.str "news", .int k]) = X9 at W8 ⊢
      dsimp only [tNext]
      refine ⟨W8.t, fun Y1 eN3 T3 => ?_⟩
      have V1 := W8.ext eN3 T3
      refine ⟨_, rfl, _, rfl, _, rfl, _, rfl, _, rfl, (by show 2 ≤ sizeLine; decide), fun r1 k1 => ?_⟩
      have u2 : Same Y1 (upd Y1 r1 (.lst [v, v])) := same_new k1
      have j1 : upd Y1 r1 (.lst [v, v]) r1 = some (.lst [v, v]) := upd_same
      generalize upd Y1 r1 (.lst [v, v]) = Y2 at u2 j1 ⊢
      refine ⟨c3, r1, _, _, rfl, rfl, u2 _ _ (V1.get _ _ gc), j1, Nat.le_of_lt (small5000 (by simp; omega)), fun r2 k2 => ?_⟩
      have u3 : Same Y2 (upd Y2 r2 (.lst (ws.map V.int ++ [v, v]))) := same_new k2
      have j2 : upd Y2 r2 (.lst (ws.map V.int ++ [v, v])) r2 = some (.lst (ws.map V.int ++ [v, v])) := upd_same
      generalize upd Y2 r2 (.lst (ws.map V.int ++ [v, v])) = Y3 at u3 j2 ⊢
      have V3 := V1.same (u2.trans u3)
      have g3 : Same G Y3 := w4.g.trans V3.get
      refine refused_make (o := .int ws.length) (good g3 (.inr ⟨r2, ws, [v, v], rfl, .inl (SqL.of j2), by omega, by omega, dat.w1, (fun z => nomatch z), fun b r z => ⟨fun z => absurd z (by omega), rfl⟩⟩)) (fun z => nomatch z) fun p8 Y4 sY e8 => ?_
      rw [wl] at e8
      refine ⟨_, rfl, a, _, rfl, .inl (SqL.of (sY _ _ (g3 _ _ ea))), (by show 2 ≤ sizeLine; decide), fun t ht => ?_⟩
      rw [show (ns.map V.str).length = ns.length from List.length_map ..]
      refine ne_word (same_new ht _ _ e8) upd_same (by decide +kernel) ⟨_, rfl, iteF ?_⟩
      have hi8 : i < 8 := hi
      exact ⟨by omega, ⟨n' + 1, by omega, (V3.same sY).same (same_new ht)⟩, _, _, rfl⟩
    rintro σ X ⟨_, ⟨n1, hn1, hW⟩, v5, v6, rfl⟩
    replace hW := hW.back w4.g (Nat.le_refl _)
    have hn1' : n1 ≤ n + 8 := hn1
    clear hw w1 w2 w3 w4 e1 e2 e3 e4 s2 s3 s4 h1 h2 h3 hl hn1
    dsimp only
    have g0 := hW.get
    refine st_set_of ?_
    refine ⟨_, rfl, c3, _, rfl, .inl (SqL.of (g0 _ _ ec)), _, rfl, by omega, by rw [List.length_map]; omega, fun L hL => ?_⟩
    have GL : G L = none := g0.free hL
    have Lsp := hW.s.ne hL
    have em : (((ws.map V.int).length : Int)).toNat = ns.length := by rw [List.length_map]; omega
    rw [em]
    refine lc_it walk_range (fun i Y => i ≤ ns.length ∧ Wd Tb sp G n1 Y ∧ ∃ acc, Y L = some (.lst acc) ∧ Words (del (GN sp Y) L) acc i) ⟨Nat.zero_le _, hW.same (same_new hL), [], upd_same, rfl, fun j v h => by simp at h⟩ (fun _ _ _ _ => trivial) (fun i v Y0 Y hi p yy => ?_) fun Y p => ?_
    · obtain ⟨rfl, rfl⟩ := yy
      obtain ⟨_, WY, acc, eL, hacc⟩ := p
      refine ⟨rfl, WY.t, fun Y1 eN T1 => ?_⟩
      have V1 := WY.ext eN T1
      have eL1 : Y1 L = some (.lst acc) := eN _ _ eL fun ps z => by cases z
      have hacc1 := hacc.same (same_del (gn_ext eN))
      refine ⟨_, rfl, _, rfl, _, rfl, _, rfl, _, rfl, c3, _, rfl, SqL.of (V1.get _ _ ec), fun q1 h1 => ?_⟩
      dsimp only
      rw [Int.zero_add, cut_to _ (by rw [List.length_map]; omega)]
      have t3 : Same Y1 (upd Y1 q1 (.lst ((ws.map V.int).take i))) := same_new h1
      have f1 : upd Y1 q1 (.lst ((ws.map V.int).take i)) q1 = some (.lst ((ws.take i).map V.int ++ [])) := by rw [upd_same, List.map_take, List.append_nil]
      generalize upd Y1 q1 (.lst ((ws.map V.int).take i)) = Y2 at t3 f1 ⊢
      have V2 := V1.same t3
      have lt : (ws.take i).length = i := by rw [List.length_take]; omega
      refine refused_make (o := .int (ws.take i).length) (good V2.get (.inr ⟨q1, ws.take i, [], rfl, .inl (SqL.of f1), by omega, by omega, fun x hx => dat.w1 x (List.mem_of_mem_take hx), (fun _ => by rw [if_pos (by omega)]), fun b r z => (nomatch z)⟩)) (fun z => nomatch z) fun p7 Y3 sX e => ?_
      rw [lt] at e
      have V3 := V2.same sX
      have eL3 := sX _ _ (t3 _ _ eL1)
      have pL : p7 ≠ L := fun z => by rw [z, eL3] at e; cases e
      have psp : p7 ≠ sp := fun z => by
        obtain ⟨Ls, e5, _⟩ := V3.s
        rw [z, e5] at e; cases e
      have al := hacc.1
      refine ⟨acc, eL3, small5000 (by omega), hi, V3.put GL Lsp eL3, acc ++ [.ref p7], upd_same, ?_⟩
      rw [delGN_upd]
      exact (hacc1.same (same_del (up (t3.trans sX)))).snoc (del_of pL (noT_of (del_of psp e) (fun ps z => by cases z)))
    obtain ⟨_, WY, acc, eL, hacc⟩ := p
    -- one more, of news too many
    refine ⟨_, rfl, .inl ⟨rfl, acc, SqL.of eL⟩, WY.t, fun Y1 eN T1 => ?_⟩
    have V1 := WY.ext eN T1
    have eL1 : Y1 L = some (.lst acc) := eN _ _ eL fun ps z => by cases z
    have hacc1 := hacc.same (same_del (gn_ext eN))
    refine ⟨_, rfl, _, rfl, _, rfl, (by show 1 ≤ sizeLine; decide), fun q1 h1 => ?_⟩
    have t3 : Same Y1 (upd Y1 q1 (.lst [.int 1])) := same_new h1
    have f1 : upd Y1 q1 (.lst [.int 1]) q1 = some (.lst [.int 1]) := upd_same
    generalize upd Y1 q1 (.lst [.int 1]) = Y2 at t3 f1 ⊢
    refine ⟨c3, q1, _, _, rfl, rfl, t3 _ _ (V1.get _ _ ec), f1, Nat.le_of_lt (small5000 (by simp; omega)), fun q2 h2 => ?_⟩
    have t4 : Same Y2 (upd Y2 q2 (.lst (ws.map V.int ++ [.int 1]))) := same_new h2
    have f2 : upd Y2 q2 (.lst (ws.map V.int ++ [.int 1])) q2 = some (.lst (ws.map V.int ++ [.int 1])) := upd_same
    generalize upd Y2 q2 (.lst (ws.map V.int ++ [.int 1])) = Y3 at t4 f2 ⊢
    have V3 := V1.same (t3.trans t4)
    refine refused_make (o := .int ws.length) (good V3.get (.inr ⟨q2, ws, [.int 1], rfl, .inl (SqL.of f2), by omega, by omega, dat.w1, (fun z => nomatch z), fun b r z => ⟨fun z => absurd z (by omega), rfl⟩⟩)) (fun z => nomatch z) fun p7 Y4 sX e => ?_
    rw [wl] at e
    have V4 := V3.same sX
    have eL4 := sX _ _ (t4 _ _ (t3 _ _ eL1))
    have pL : p7 ≠ L := fun z => by rw [z, eL4] at e; cases e
    have psp : p7 ≠ sp := fun z => by
      obtain ⟨Ls, e5, _⟩ := V4.s
      rw [z, e5] at e; cases e
    have al := hacc.1
    refine ⟨L, acc, _, rfl, rfl, eL4, small5000 (by omega), ?_⟩
    have V5 := V4.put (ys := acc ++ [.ref p7]) GL Lsp eL4
    have eL5 : upd Y4 L (.lst (acc ++ [.ref p7])) L = some (.lst (acc ++ [.ref p7])) := upd_same
    have W5 : Words (del (GN sp (upd Y4 L (.lst (acc ++ [.ref p7])))) L) (acc ++ [.ref p7]) (ns.length + 1) := by
      rw [delGN_upd]
      exact (hacc1.same (same_del (up ((t3.trans t4).trans sX)))).snoc (del_of pL (noT_of (del_of psp e) (fun ps z => by cases z)))
    generalize upd Y4 L (.lst (acc ++ [.ref p7])) = Y5 at V5 eL5 W5 ⊢
    have W5' : Words Y5 (acc ++ [.ref p7]) (ns.length + 1) := W5.same (Same.trans del_le (Same.trans noT_le del_le))
    -- as it should be
    dsimp only
    refine ⟨_, rfl, _, rfl, c3, _, rfl, .inl (SqL.of (V5.get _ _ ec)), _, rfl, by omega, by rw [List.length_map]; omega, fun L2 hL2 => ?_⟩
    rw [em]
    refine lc_it walk_range (fun i Y => i ≤ ns.length ∧ Same Y5 Y ∧ ∃ acc, Y L2 = some (.lst acc) ∧ Words (del Y L2) acc i) ⟨Nat.zero_le _, same_new hL2, [], upd_same, rfl, fun j v h => by simp at h⟩ (fun _ _ _ _ => trivial) (fun i v Y0 Y hi p yy => ?_) fun Y p => ?_
    · obtain ⟨rfl, rfl⟩ := yy
      obtain ⟨_, sY, acc2, eL2, hacc2⟩ := p
      refine ⟨rfl, _, rfl, (by show 2 ≤ sizeLine; decide), fun q1 h1 => ?_⟩
      have Lq : L2 ≠ q1 := ne_of_none eL2 h1
      have al2 := hacc2.1
      refine ⟨acc2, by rw [upd_ne Lq]; exact eL2, small5000 (by omega), hi, same_upd (Same.new' sY h1) hL2, acc2 ++ [.ref q1], upd_same, ?_⟩
      rw [del_upd_same]
      refine (hacc2.same (same_del (same_new h1))).snoc (del_of Lq.symm ?_)
      rw [upd_same]
      dsimp only
      rw [Int.zero_add]
    obtain ⟨_, sY, acc2, eL2, hacc2⟩ := p
    have al2 := hacc2.1
    refine ⟨_, rfl, a, _, rfl, .inl (SqL.of (sY _ _ (V5.get _ _ ea))), (by show 2 ≤ sizeLine; decide), fun t ht => ⟨(by show 1 ≤ sizeLine; decide), fun l1 hl1 => ?_⟩⟩
    rw [show (ns.map V.str).length = ns.length from List.length_map ..] at hl1 ⊢
    have s6 : Same Y (upd Y t (.tup [.str "news", .int (ns.length : Int)])) := same_new ht
    have e6 : upd Y t (.tup [.str "news", .int (ns.length : Int)]) t = some (.tup [.str "news", .int (ns.length : Int)]) := upd_same
    generalize upd Y t (.tup [.str "news", .int (ns.length : Int)]) = Y6 at s6 e6 hl1 ⊢
    have s7 : Same Y6 (upd Y6 l1 (.lst [.ref t])) := same_new hl1
    have e7 : upd Y6 l1 (.lst [.ref t]) l1 = some (.lst [.ref t]) := upd_same
    generalize upd Y6 l1 (.lst [.ref t]) = Y7 at s7 e7 ⊢
    refine ⟨L2, l1, _, _, rfl, rfl, s7 _ _ (s6 _ _ eL2), e7, Nat.le_of_lt (small5000 (by simp; omega)), fun l2 hl2 => ?_⟩
    have s8 : Same Y7 (upd Y7 l2 (.lst (acc2 ++ [.ref t]))) := same_new hl2
    have e8 : upd Y7 l2 (.lst (acc2 ++ [.ref t])) l2 = some (.lst (acc2 ++ [.ref t])) := upd_same
    generalize upd Y7 l2 (.lst (acc2 ++ [.ref t])) = Y8 at s8 e8 ⊢
    have s68 := (s6.trans s7).trans s8
    have sE := sY.trans s68
    refine ⟨dWs (ns.length + 1), dWs (ns.length + 1), (W5'.same sE).dp (sE _ _ eL5), (((hacc2.same del_le).same s68).snoc (s8 _ _ (s7 _ _ e6))).dp e8, sh_dWs _, sh_dWs _, ?_⟩
    rw [eqv_dWs]
    exact q Y8 n1 (by omega) (V5.same sE)
end
end HS

set_option maxHeartbeats 4000000
/-! the great village: sixty people -/
namespace HS
open PySem PySem.Spec L2
/-- each person k from 1 on is tied to k / 2 -/
theorem half_tree (g : Nat → Str) (m : Nat) : ∀ n, n ≤ m → ((List.range (m + 1)).map g).Nodup → Tree ((List.range (n + 1)).map g) ((List.range n).map fun k => (g ((k + 1) / 2), g (k + 1))) := by
  intro n
  induction n with
  | zero => intro _ _; exact tree_one (g 0)
  | succ n ih =>
    intro hn hd
    have t := ih (by omega) hd
    have e1 : (List.range (n + 1 + 1)).map g = (List.range (n + 1)).map g ++ [g (n + 1)] := by rw [List.range_succ, List.map_append]; rfl
    have e2 : ((List.range (n + 1)).map fun k => (g ((k + 1) / 2), g (k + 1))) = ((List.range n).map fun k => (g ((k + 1) / 2), g (k + 1))) ++ [(g ((n + 1) / 2), g (n + 1))] := by rw [List.range_succ, List.map_append]; rfl
    rw [e1, e2]
    have hd2 : ((List.range (n + 1 + 1)).map g).Nodup := by
      refine hd.sublist ?_
      have : (List.range (m + 1)).map g = (List.range (n + 1 + 1)).map g ++ ((List.range (m + 1)).drop (n + 1 + 1)).map g := by
        rw [← List.map_append]
        congr 1
        have := List.take_append_drop (n + 1 + 1) (List.range (m + 1))
        rw [List.take_range, Nat.min_eq_left (by omega)] at this
        exact this.symm
      rw [this]
      exact List.sublist_append_left _ _
    rw [e1] at hd2
    have hn2 := List.nodup_append.mp hd2
    exact t.grow (List.mem_map.mpr ⟨(n + 1) / 2, List.mem_range.mpr (by omega), rfl⟩) (fun h => hn2.2.2 _ h _ (by simp) rfl) (.inl rfl)
end HS

set_option maxHeartbeats 4000000
/-! list(zip(a, b)) of two lists -/
namespace LZ
open PySem PySem.Calls PyProof.Rows PySem.Spec L2
structure ZSt (h : Heap) (z TI TO i1 i2 l1 l2 S : Addr) (xs ys : Array Value) (i : Nat) : Prop where
  ti : IsPair h TI (.ref i1) (.ref i2)
  h1 : h.IsListIter i1 l1 i
  h2 : h.IsListIter i2 l2 i
  l1 : h.IsList l1 xs
  l2 : h.IsList l2 ys
  zz : (IsZip h z TI TO .none ∧ ∃ a b, IsPair h TO a b) ∨ ∃ T f oT, IsZipHeld h z TI TO T f ∧ h.get? T = some oT ∧ T ≠ z ∧ T ≠ i1 ∧ T ≠ i2 ∧ T ≠ S
structure Low (z TI TO i1 i2 l1 l2 S : Addr) : Prop where
  z : z < S
  ti : TI < S
  to : TO < S
  i1 : i1 < S
  i2 : i2 < S
  l1 : l1 < S
  l2 : l2 < S
theorem ZSt.keep {h h' : Heap} {z TI TO i1 i2 l1 l2 S : Addr} {xs ys : Array Value} {i : Nat} (L : Low z TI TO i1 i2 l1 l2 S) (st : ZSt h z TI TO i1 i2 l1 l2 S xs ys i) (hk : ∀ b o, b ≠ S → h.get? b = some o → h'.get? b = some o) : ZSt h' z TI TO i1 i2 l1 l2 S xs ys i := by
  obtain ⟨ti, h1, h2, q1, q2, zz⟩ := st
  refine ⟨hk _ _ (Nat.ne_of_lt L.ti) ti, h1.at fun o e => hk _ o (Nat.ne_of_lt L.i1) e, h2.at fun o e => hk _ o (Nat.ne_of_lt L.i2) e, q1.at fun o e => hk _ o (Nat.ne_of_lt L.l1) e, q2.at fun o e => hk _ o (Nat.ne_of_lt L.l2) e, ?_⟩
  rcases zz with ⟨hz, a, b, hTO⟩ | ⟨T, f, oT, hz, hT, r1, r2, r3, r4⟩
  · exact .inl ⟨hk _ _ (Nat.ne_of_lt L.z) hz, a, b, hk _ _ (Nat.ne_of_lt L.to) hTO⟩
  · exact .inr ⟨T, f, oT, hk _ _ (Nat.ne_of_lt L.z) hz, hk _ _ r4 hT, r1, r2, r3, r4⟩
section
variable {prog : Program} {w : World} {A : Around} {E : Value → Shared → Prop} {s : Shared} {z TI TO i1 i2 l1 l2 S : Addr} {xs ys : Array Value} {i : Nat}
theorem zl_item {x y : Value} {Q : Option Value → Shared → Prop} (D : ZipApart z TI TO i1 i2 l1 l2) (st : ZSt s.heap z TI TO i1 i2 l1 l2 S xs ys i) (hS : S < s.heap.objs.size) (hx : xs[i]? = some x) (hy : ys[i]? = some y)
    (hQ : ∀ h', ZSt h' z TI TO i1 i2 l1 l2 S xs ys (i + 1) → h'.get? s.heap.objs.size = some { cls := .type "tuple", data := .seq #[x, y] } → h'.objs.size = s.heap.objs.size + 1 →
      (∀ c o, c ≠ z → c ≠ TO → c ≠ i1 → c ≠ i2 → s.heap.get? c = some o → h'.get? c = some o) → Q (some (.ref s.heap.objs.size)) { s with heap := h' }) : wpAny (model prog w) A (pyNext (.ref z)) Q E s := by
  obtain ⟨hTI, h1, h2, hl1, hl2, hz⟩ := st
  have lt : ∀ {c o}, s.heap.get? c = some o → s.heap.objs.size ≠ c := fun e => Nat.ne_of_gt (Heap.lt_size e)
  have n1 : s.heap.objs.size ≠ i1 := let ⟨_, e, _⟩ := h1; lt e
  have n2 : s.heap.objs.size ≠ i2 := let ⟨_, e, _⟩ := h2; lt e
  rcases hz with ⟨hz, a, b, hTO⟩ | ⟨T, f, oT, hz, hT, r1, r2, r3, r4⟩
  · refine wpAny_pyNext_zip_item D hz hTI hTO h1 h2 hl1 hl2 hx hy fun h' a1 a2 a3 a4 a5 a6 hk => ?_
    exact hQ h' ⟨hk _ _ D.TIz D.TITO D.TIi1 D.TIi2 hTI, a3, a4, hl1.at fun o e => hk _ o D.l1z D.l1TO D.l1i1 D.l1i2 e, hl2.at fun o e => hk _ o D.l2z D.l2TO D.l2i1 D.l2i2 e,
      .inr ⟨s.heap.objs.size, false, _, a1, a5, lt hz, n1, n2, Nat.ne_of_gt hS⟩⟩ a5 a6 hk
  · refine wpAny_pyNext_zip_item_held D hz hT hTI h1 h2 hl1 hl2 hx hy fun h' a1 a3 a4 a5 a6 hk => ?_
    exact hQ h' ⟨hk _ _ D.TIz D.TIi1 D.TIi2 hTI, a3, a4, hl1.at fun o e => hk _ o D.l1z D.l1i1 D.l1i2 e, hl2.at fun o e => hk _ o D.l2z D.l2i1 D.l2i2 e,
      .inr ⟨T, true, oT, a1, hk _ _ r1 r2 r3 hT, r1, r2, r3, r4⟩⟩ a5 a6 fun c o c1 _ c3 c4 e => hk c o c1 c3 c4 e
theorem zl_done {Q : Option Value → Shared → Prop} (hh : A.handled = none) (D : ZipApart z TI TO i1 i2 l1 l2) (st : ZSt s.heap z TI TO i1 i2 l1 l2 S xs ys i) (hend : xs[i]? = none ∨ ys[i]? = none)
    (hQ : ∀ h', (∀ c o, c ≠ z → c ≠ TO → c ≠ i1 → c ≠ i2 → s.heap.get? c = some o → h'.get? c = some o) → Q none { s with heap := h' }) : wpAny (model prog w) A (pyNext (.ref z)) Q E s := by
  obtain ⟨hTI, h1, h2, hl1, hl2, hz⟩ := st
  rcases hz with ⟨hz, a, b, hTO⟩ | ⟨T, f, oT, hz, hT, r1, r2, r3, r4⟩
  · exact wpAny_pyNext_zip_end hh D hz hTI hTO h1 h2 hl1 hl2 hend hQ
  · exact wpAny_pyNext_zip_end_held hh D hz hT hTI h1 h2 hl1 hl2 hend fun h' hk => hQ h' fun c o c1 _ c3 c4 e => hk c o c1 c3 c4 e
structure ZG (xs ys : Array Value) (lo : Addr) (h : Heap) (as : List Addr) : Prop where
  rise : as.Pairwise (· < ·)
  above : ∀ a ∈ as, lo < a
  pairs : ∀ (j : Nat) (a : Addr), as[j]? = some a → ∃ x y, xs[j]? = some x ∧ ys[j]? = some y ∧ h.get? a = some { cls := .type "tuple", data := .seq #[x, y] }
theorem ZG.there {lo : Addr} {h : Heap} {as : List Addr} (g : ZG xs ys lo h as) {a : Addr} (ha : a ∈ as) : a < h.objs.size := by
  obtain ⟨j, hj⟩ := List.mem_iff_getElem?.mp ha
  obtain ⟨_, _, _, _, e⟩ := g.pairs j a hj
  exact Heap.lt_size e
theorem zl_loop {R : Result → Shared → Prop} {n : Nat} (hh : A.handled = none) (D : ZipApart z TI TO i1 i2 l1 l2) (L : Low z TI TO i1 i2 l1 l2 S) (en : n = min xs.size ys.size) (hn : n ≤ sizeLine) (res : Value) {h₁ : Heap}
    (hR : ∀ h' tk acc c as, (∀ b o, b ≠ S → b ≠ z → b ≠ TO → b ≠ i1 → b ≠ i2 → h₁.get? b = some o → h'.get? b = some o) → h'.get? S = some { cls := .type "list", dict := none, data := .seq acc c, slots := #[] } → as.length = n → ZG xs ys S h' as →
      acc.toList = as.map Value.ref → R (.ok (.ret res)) { s with heap := h', toks := tk }) :
    ∀ (k i : Nat) (h : Heap) (tk c : Nat) (acc : Array Value) (as : List Addr), n - i = k → i ≤ n → ZSt h z TI TO i1 i2 l1 l2 S xs ys i → (∀ b o, b ≠ S → b ≠ z → b ≠ TO → b ≠ i1 → b ≠ i2 → h₁.get? b = some o → h.get? b = some o) →
      h.get? S = some { cls := .type "list", dict := none, data := .seq acc c, slots := #[] } → acc.toList = as.map Value.ref → as.length = i → ZG xs ys S h as →
      codeAny (model prog w) A (.builtin "list.extend.loop" ⟨[.ref S, .ref z, res], []⟩) R { s with heap := h, toks := tk } := by
  intro k
  induction k with
  | zero =>
    intro i h tk c acc as hk hi hst hkeep hS hacc hal hG
    have hin : i = n := by omega
    refine codeAny_builtin PySem.F.entry_extend_loop ?_
    rw [Around.under_plainId PySem.F.plain_extend_loop _]
    show wpAny _ A.in1 (pyNext (.ref z) >>= _) _ _ _
    have hend : xs[i]? = none ∨ ys[i]? = none := by
      rcases Nat.le_total xs.size ys.size with q | q
      · exact .inl (Array.getElem?_eq_none (by omega))
      · exact .inr (Array.getElem?_eq_none (by omega))
    refine wpAny_bind (zl_done (s := { s with heap := h, toks := tk }) (A := A.in1) hh D hst hend fun h' hkp => ?_)
    have ab : ∀ a ∈ as, ∀ o, h.get? a = some o → h'.get? a = some o := fun a ha o e => by
      have := hG.above a ha
      exact hkp a o (Nat.ne_of_gt (Nat.lt_trans L.z this)) (Nat.ne_of_gt (Nat.lt_trans L.to this)) (Nat.ne_of_gt (Nat.lt_trans L.i1 this)) (Nat.ne_of_gt (Nat.lt_trans L.i2 this)) e
    refine wpAny_pure (hR h' tk acc c as (fun b o h1 h2 h3 h4 h5 e => hkp b o h2 h3 h4 h5 (hkeep b o h1 h2 h3 h4 h5 e)) (hkp S _ (Nat.ne_of_gt L.z) (Nat.ne_of_gt L.to) (Nat.ne_of_gt L.i1) (Nat.ne_of_gt L.i2) hS) (by omega) ⟨hG.rise, hG.above, fun j a hj => ?_⟩ hacc)
    obtain ⟨x, y, e1, e2, e3⟩ := hG.pairs j a hj
    exact ⟨x, y, e1, e2, ab a (List.mem_of_getElem? hj) _ e3⟩
  | succ k ih =>
    intro i h tk c acc as hk hi hst hkeep hS hacc hal hG
    have hlt : i < n := by omega
    have hx : xs[i]? = some xs[i] := Array.getElem?_eq_getElem (by omega)
    have hy : ys[i]? = some ys[i] := Array.getElem?_eq_getElem (by omega)
    have hsz : acc.size = i := by rw [← Array.length_toList, hacc, List.length_map, hal]
    refine codeAny_builtin PySem.F.entry_extend_loop ?_
    rw [Around.under_plainId PySem.F.plain_extend_loop _]
    show wpAny _ A.in1 (pyNext (.ref z) >>= _) _ _ _
    have hSl : S < h.objs.size := Heap.lt_size hS
    refine wpAny_bind (zl_item (s := { s with heap := h, toks := tk }) (S := S) D hst hSl hx hy fun h' hst' ht hz hkp => ?_)
    dsimp only at ht hz hkp ⊢
    have hS' := hkp S _ (Nat.ne_of_gt L.z) (Nat.ne_of_gt L.to) (Nat.ne_of_gt L.i1) (Nat.ne_of_gt L.i2) hS
    have up : ∀ b o, b ≠ S → h'.get? b = some o → (h'.update S (Obj.mapSeq (·.push (Value.ref h.objs.size)))).get? b = some o := fun b o hb e => (Heap.get?_update_other _ _ (Ne.symm hb)).trans e
    have ab : ∀ a, S < a → ∀ o, h.get? a = some o → h'.get? a = some o := fun a this o e =>
      hkp a o (Nat.ne_of_gt (Nat.lt_trans L.z this)) (Nat.ne_of_gt (Nat.lt_trans L.to this)) (Nat.ne_of_gt (Nat.lt_trans L.i1 this)) (Nat.ne_of_gt (Nat.lt_trans L.i2 this)) e
    show wpAny _ A.in1 (updateSeq S (·.push (Value.ref h.objs.size)) >>= _) _ _ _
    refine wpAny_bind ?_
    refine wpAny_updateSeq hS' rfl (wpAny_pure ⟨plainId_quiet PySem.F.plain_extend_loop _, ih (i + 1) _ tk _ (acc.push (Value.ref h.objs.size)) (as ++ [h.objs.size]) (by omega) hlt (hst'.keep L up)
      (fun b o h1 h2 h3 h4 h5 e => up b o h1 (hkp b o h2 h3 h4 h5 (hkeep b o h1 h2 h3 h4 h5 e))) (Heap.get?_update_self _ hS' rfl) (by rw [Array.toList_push, hacc, List.map_append]; rfl) (by rw [List.length_append, hal]; rfl) ⟨?_, ?_, ?_⟩⟩) (by rw [hsz]; omega) (by show (acc.push (Value.ref h.objs.size)).size ≤ sizeLine + 1; rw [Array.size_push, hsz]; omega)
    · refine List.pairwise_append.mpr ⟨hG.rise, List.pairwise_singleton _ _, fun a ha b hb => ?_⟩
      rw [List.mem_singleton.mp hb]
      exact hG.there ha
    · intro a ha
      rcases List.mem_append.mp ha with ha | ha
      · exact hG.above a ha
      · rw [List.mem_singleton.mp ha]; exact hSl
    · intro j b hj
      rcases Nat.lt_trichotomy j as.length with h1 | h1 | h1
      · rw [List.getElem?_append_left h1] at hj
        obtain ⟨x', y', e1, e2, e3⟩ := hG.pairs j b hj
        have hb := hG.above b (List.mem_of_getElem? hj)
        exact ⟨x', y', e1, e2, up b _ (Nat.ne_of_gt hb) (ab b hb _ e3)⟩
      · subst h1
        have hb : h.objs.size = b := by simpa using hj
        subst hb
        exact ⟨_, _, by rw [hal]; exact hx, by rw [hal]; exact hy, up _ _ (Nat.ne_of_gt hSl) ht⟩
      · have hnone : (as ++ [h.objs.size])[j]? = none := List.getElem?_eq_none (by rw [List.length_append, List.length_singleton]; omega)
        rw [hnone] at hj; cases hj
end
theorem zip_no_len : typeLookup (.type "zip") "__len__" = pure none := by rw [typeLookup_type, builtinLookup_eq_fast]; kernel_rfl
theorem zip_no_hint : typeLookup (.type "zip") "__length_hint__" = pure none := by rw [typeLookup_type, builtinLookup_eq_fast]; kernel_rfl
section
variable {prog : Program} {w : World} {A : Around} {E : Value → Shared → Prop} {s : Shared} {z TI TO i1 i2 l1 l2 : Addr} {xs ys : Array Value}
theorem zl_hint (hT : s.TypeIs (.ref z) "zip") {Q : Bool → Shared → Prop} (h : Q true s) : wpAny (model prog w) A (Builtin.List.listLengthHint (.ref z)) Q E s := by
  unfold Builtin.List.listLengthHint
  refine wpAny_bind (wpAny_specialOf hT zip_no_len ?_)
  show wpAny _ A (specialOf (Value.ref z) (Str.ofString "__length_hint__") >>= _) _ _ _
  refine wpAny_bind (wpAny_specialOf hT zip_no_hint ?_)
  exact wpAny_pure h
theorem ZG.low {lo lo' : Addr} {h : Heap} {as : List Addr} (g : ZG xs ys lo h as) (hl : lo' ≤ lo) : ZG xs ys lo' h as := ⟨g.rise, fun a ha => Nat.lt_of_le_of_lt hl (g.above a ha), g.pairs⟩
theorem zl_extend {R : Result → Shared → Prop} {n : Nat} {S : Addr} (hh : A.handled = none) (D : ZipApart z TI TO i1 i2 l1 l2) (L : Low z TI TO i1 i2 l1 l2 S) (en : n = min xs.size ys.size) (hn : n ≤ sizeLine) (hst : ZSt s.heap z TI TO i1 i2 l1 l2 S xs ys 0) (f0 : Value) (hz : IsZip s.heap z TI TO f0) (res : Value) (c₀ : Nat) (hS : s.heap.get? S = some { cls := .type "list", data := .seq #[] c₀ })
    (hR : ∀ h' tk acc c as, (∀ b o, b ≠ S → b ≠ z → b ≠ TO → b ≠ i1 → b ≠ i2 → s.heap.get? b = some o → h'.get? b = some o) → h'.get? S = some { cls := .type "list", dict := none, data := .seq acc c, slots := #[] } → as.length = n → ZG xs ys S h' as →
      acc.toList = as.map Value.ref → R (.ok (.ret res)) { s with heap := h', toks := tk }) :
    wpAny (model prog w) A.in1 (Builtin.List.listExtendWith (.ref S) (.ref z) res)
      (fun fin s' => match fin with | .done f => R (.ok f) s' | .again c' => c'.quiet = true ∧ codeAny (model prog w) A c' R s') (fun e s' => R (.error e) s') s := by
  have hSz : S ≠ z := Nat.ne_of_gt L.z
  have hT : s.TypeIs (.ref z) "zip" := ⟨_, hz, rfl⟩
  unfold Builtin.List.listExtendWith
  refine wpAny_bind (wpAny_typeOf (T := "zip") hT ?_)
  have h1 : Builtin.List.listSameRef (.ref S) (.ref z) = false := by simp [Builtin.List.listSameRef, hSz]
  have h2 : (Value.type "zip" == Value.type "list") = false := by decide
  have h3 : (Value.type "zip" == Value.type "tuple") = false := by decide
  simp only [h1, h2, h3, Bool.or_false, Bool.false_eq_true, if_false]
  refine wpAny_bind (wpAny_pyIter_zip hz ?_)
  refine wpAny_bind (wpAny_holding (zl_hint hT ?_))
  have key : ∀ (h : Heap) (c₁ tk : Nat), (∀ b o, b ≠ S → s.heap.get? b = some o → h.get? b = some o) → h.get? S = some { cls := .type "list", data := .seq #[] c₁ } → codeAny (model prog w) A (.builtin "list.extend.loop" ⟨[.ref S, .ref z, res], []⟩) R { s with heap := h, toks := tk } := fun h c₁ tk hk hS₁ =>
    zl_loop (s := s) (h₁ := s.heap) hh D L en hn res hR n 0 h tk c₁ #[] [] (Nat.sub_zero _) (Nat.zero_le _) (hst.keep L hk) (fun b o hb _ _ _ _ e => hk b o hb e) hS₁ rfl rfl
      ⟨List.Pairwise.nil, (fun _ ha => nomatch ha), (fun j a hj => by simp at hj)⟩
  refine wpAny_ite_split (fun _ => ?_) (fun _ => wpAny_pure ⟨plainId_quiet PySem.F.plain_extend_loop _, key _ c₀ _ (fun b o _ e => e) hS⟩)
  refine wpAny_bind (wpAny_rule ?_)
  refine wpAny_bind ?_
  show wpAny _ _ (updateSeq S (·.push .none) >>= fun _ => updateSeq S (·.pop)) _ _ _
  refine wpAny_bind (wpAny_updateSeq hS rfl ?_)
  have hS₂ := Heap.get?_update_self (Obj.mapSeq (·.push Value.none)) hS rfl
  refine wpAny_updateSeq (hz := by seq_fits) hS₂ rfl ?_
  have hS₃ := Heap.get?_update_self (Obj.mapSeq (·.pop)) hS₂ rfl
  refine wpAny_pure ⟨plainId_quiet PySem.F.plain_extend_loop _, key _ _ _ (fun b o hb e => ?_) hS₃⟩
  exact (Heap.get?_update_other _ _ (Ne.symm hb)).trans ((Heap.get?_update_other _ _ (Ne.symm hb)).trans e)
theorem zl_init {R : Result → Shared → Prop} {n : Nat} {S : Addr} (hh : A.handled = none) (D : ZipApart z TI TO i1 i2 l1 l2) (L : Low z TI TO i1 i2 l1 l2 S) (en : n = min xs.size ys.size) (hn : n ≤ sizeLine) (hst : ZSt s.heap z TI TO i1 i2 l1 l2 S xs ys 0) (f0 : Value) (hz : IsZip s.heap z TI TO f0) (hS : s.heap.get? S = some { cls := .type "list", data := .seq #[] })
    (hR : ∀ h' tk acc c as, (∀ b o, b ≠ S → b ≠ z → b ≠ TO → b ≠ i1 → b ≠ i2 → s.heap.get? b = some o → h'.get? b = some o) → h'.get? S = some { cls := .type "list", dict := none, data := .seq acc c, slots := #[] } → as.length = n → ZG xs ys S h' as →
      acc.toList = as.map Value.ref → R (.ok (.ret .none)) { s with heap := h', toks := tk }) :
    wpAny (model prog w) A.in1 (Builtin.«list.__init__» ⟨[.ref S, .ref z], []⟩)
      (fun fin s' => match fin with | .done f => R (.ok f) s' | .again c' => c'.quiet = true ∧ codeAny (model prog w) A c' R s') (fun e s' => R (.error e) s') s := by
  show wpAny _ _ (do let old ← Builtin.List.listItems (.ref S); Builtin.List.listUpdate (.ref S) (fun _ => #[]); letGo old.toList.reverse; Builtin.List.listExtendWith (.ref S) (.ref z) .none) _ _ s
  refine wpAny_bind ?_
  unfold Builtin.List.listItems
  refine wpAny_bind (wpAny_seqItems hS rfl (wpAny_pure ?_))
  show wpAny _ _ (updateSeq S (fun _ => #[]) >>= fun _ => letGo (#[] : Array Value).toList.reverse >>= fun _ => Builtin.List.listExtendWith (.ref S) (.ref z) .none) _ _ s
  refine wpAny_bind (wpAny_updateSeq hS rfl ?_)
  have hS₂ := Heap.get?_update_self (Obj.mapSeq (fun _ => (#[] : Array Value))) hS rfl
  have oth : ∀ b o, b ≠ S → s.heap.get? b = some o → (s.heap.update S (Obj.mapSeq (fun _ => (#[] : Array Value)))).get? b = some o :=
    fun b o hb e => (Heap.get?_update_other _ _ (Ne.symm hb)).trans e
  refine wpAny_bind (wpAny_letGo ?_)
  refine zl_extend hh D L en hn (hst.keep L oth) f0 (oth _ _ (Nat.ne_of_lt L.z) hz) .none _ hS₂ (fun h' tk acc c as hk hS' hl hG hacc => ?_)
  exact hR h' tk acc c as (fun b o hb h2 h3 h4 h5 e => hk b o hb h2 h3 h4 h5 (oth b o hb e)) hS' hl hG hacc
/-- list(z) of a zip that is new -/
theorem zl_call {Q : Value → Shared → Prop} {n : Nat} (hh : A.handled = none) (D : ZipApart z TI TO i1 i2 l1 l2) (en : n = min xs.size ys.size) (hn : n ≤ sizeLine) (hst : ∀ S, s.heap.objs.size ≤ S → ZSt s.heap z TI TO i1 i2 l1 l2 S xs ys 0) (L : Low z TI TO i1 i2 l1 l2 s.heap.objs.size) (f0 : Value) (hz : IsZip s.heap z TI TO f0)
    (hQ : ∀ h' tk acc c as, (∀ b o, b ≠ z → b ≠ TO → b ≠ i1 → b ≠ i2 → s.heap.get? b = some o → h'.get? b = some o) → h'.get? s.heap.objs.size = some { cls := .type "list", dict := none, data := .seq acc c, slots := #[] } → as.length = n → ZG xs ys s.heap.objs.size h' as →
      acc.toList = as.map Value.ref → Q (.ref s.heap.objs.size) { s with heap := h', toks := tk }) :
    wpAny (model prog w) A (call (.type "list") [.ref z]) Q E s := by
  refine callType_codes (Q₁ := fun obj s₁ => obj = .ref s.heap.objs.size ∧ s₁ = { s with heap := s.heap.push { cls := .type "list", data := .seq #[] } }) PySem.F.called_list (PySem.F.typeCall_list_1 _) PySem.F.entry_list_init
    (code_list_new _ ⟨rfl, rfl⟩) fun obj s₁ h₁ => ?_
  obtain ⟨rfl, rfl⟩ := h₁
  have hS : (s.heap.push { cls := .type "list", data := .seq #[] }).get? s.heap.objs.size = some { cls := .type "list", data := .seq #[] } := Heap.get?_push_size _ rfl
  refine ⟨⟨_, hS, rfl⟩, PySem.F.args_list_init_2 _ _, zl_init (A := A.in1) hh D L en hn ((hst _ (Nat.le_refl _)).keep L fun b o _ e => Heap.get?_push_of_some _ e) f0 (Heap.get?_push_of_some _ hz) hS (fun h' tk acc c as hk hS' hl hG hacc => ?_)⟩
  exact ⟨rfl, hQ h' tk acc c as (fun b o h2 h3 h4 h5 e => hk b o (Nat.ne_of_lt (Heap.lt_size e)) h2 h3 h4 h5 (Heap.get?_push_of_some _ e)) hS' hl hG hacc⟩
end
end LZ

set_option maxHeartbeats 4000000
/-! the expression list(zip(a, b)) -/
namespace LZ
open PySem PySem.Calls PyProof.Rows PySem.Spec L2 HS
def putP : Hp → List Addr → List (V × V) → Hp
  | H, a :: as, p :: ps => putP (upd H a (.tup [p.1, p.2])) as ps
  | H, _, _ => H
theorem putP_off {b : Addr} : ∀ (as : List Addr) (ps : List (V × V)) (H : Hp), b ∉ as → putP H as ps b = H b
  | [], _, _, _ => rfl
  | _ :: _, [], _, _ => rfl
  | a :: as, p :: ps, H, h => by
    show putP (upd H a (.tup [p.1, p.2])) as ps b = H b
    rw [putP_off as ps _ (fun z => h (List.mem_cons_of_mem _ z)), upd_ne (fun z => h (by rw [z]; exact List.mem_cons_self))]
theorem putP_at : ∀ (as : List Addr) (ps : List (V × V)) (H : Hp), as.length = ps.length → as.Nodup → Paired (fun (t : Addr) (p : V × V) => putP H as ps t = some (.tup [p.1, p.2])) as ps
  | [], [], _, _, _ => .nil
  | [], _ :: _, _, h, _ => by cases h
  | _ :: _, [], _, h, _ => by cases h
  | a :: as, p :: ps, H, h, hn => by
    have hn' := List.nodup_cons.mp hn
    have ih := putP_at as ps (upd H a (.tup [p.1, p.2])) (Nat.succ.inj h) hn'.2
    refine .cons ?_ ih
    show putP (upd H a (.tup [p.1, p.2])) as ps a = some (.tup [p.1, p.2])
    rw [putP_off as ps _ hn'.1, upd_same]
theorem vals_get : ∀ {xs : List V} {us : List Value}, Vals xs us → ∀ {i : Nat} {u : Value}, us[i]? = some u → ∃ x, xs[i]? = some x ∧ RelV x u
  | _, _, .nil, i, u, h => by cases h
  | _, _, .cons r t, 0, u, h => by
    have e := Option.some.inj h
    subst e
    exact ⟨_, rfl, r⟩
  | _, _, .cons r t, i + 1, u, h => vals_get t h
theorem vals_len : ∀ {xs : List V} {us : List Value}, Vals xs us → xs.length = us.length
  | _, _, .nil => rfl
  | _, _, .cons _ t => congrArg Nat.succ (vals_len t)
section
variable {X : Cx} {p p2 cpos pos : Pos} {e e2 : Expr} {ta : TA}
theorem zip_laid {pins : List (Addr × Obj)} {σ : L2.St} {H : Hp} {s : Shared} {h' : Heap} {tk : Nat} {xs ys : List V} {us ws : List Value} {acc : Array Value} {c n : Nat} {as : List Addr} {S : Addr} (I : Inv X pins σ H s) (hz : n ≤ sizeLine) (en : n = min xs.length ys.length) (vx : Vals xs us) (vy : Vals ys ws)
    (hk : ∀ b o, s.heap.get? b = some o → h'.get? b = some o) (hle : s.heap.objs.size ≤ S) (hS : h'.get? S = some { cls := .type "list", dict := none, data := .seq acc c, slots := #[] }) (hl : as.length = n) (hG : ZG us.toArray ws.toArray S h' as) (hacc : acc.toList = as.map Value.ref) :
    ∃ H' : Hp, (∀ b o, H b = some o → H' b = some o) ∧ H S = none ∧ (∀ t ∈ as, H t = none) ∧ H' S = some (.lst (as.map V.ref)) ∧ Paired (fun (t : Addr) (q : V × V) => H' t = some (.tup [q.1, q.2])) as (xs.zip ys) ∧ Inv X pins σ H' { s with heap := h', toks := tk } := by
  have hSn : S ∉ as := fun z => Nat.lt_irrefl _ (hG.above _ z)
  have nd : as.Nodup := List.Pairwise.imp (fun {a b} (h : a < b) => Nat.ne_of_lt h) hG.rise
  have new : ∀ t ∈ as, H t = none := fun t ht => I.hok.fresh (Nat.le_of_lt (Nat.lt_of_le_of_lt hle (hG.above t ht)))
  have newS : H S = none := I.hok.fresh hle
  have atP := putP_at as (xs.zip ys) (upd H S (.lst (as.map V.ref))) (by rw [List.length_zip]; omega) nd
  have off : ∀ b, b ∉ as → b ≠ S → putP (upd H S (.lst (as.map V.ref))) as (xs.zip ys) b = H b := fun b h1 h2 => by rw [putP_off as _ _ h1, upd_ne h2]
  have low : ∀ b o, s.heap.get? b = some o → b ∉ as ∧ b ≠ S := fun b o e => ⟨fun z => absurd (Heap.lt_size e) (Nat.not_lt.mpr (Nat.le_trans hle (Nat.le_of_lt (hG.above b z)))), Nat.ne_of_lt (Nat.lt_of_lt_of_le (Heap.lt_size e) hle)⟩
  have kp : ∀ b u, H b = some u → (putP (upd H S (.lst (as.map V.ref))) as (xs.zip ys)) b = some u := fun b u e => by
    rw [off b (fun z => by rw [new b z] at e; cases e) (fun z => by rw [z, newS] at e; cases e)]
    exact e
  have eS : putP (upd H S (.lst (as.map V.ref))) as (xs.zip ys) S = some (.lst (as.map V.ref)) := by rw [putP_off as _ _ hSn, upd_same]
  refine ⟨putP (upd H S (.lst (as.map V.ref))) as (xs.zip ys), kp, newS, new, eS, atP, ?_⟩
  refine I.call' (ch := []) rfl ⟨fun b o q _ _ _ => hk b o q, fun b o q _ _ _ => ⟨o.slots, hk b o q⟩, fun b o q n _ => ?_, fun b o q _ => ⟨o, hk b o q⟩, fun b xs q => kp b _ q, fun b o u q => kp b _ q, fun b ps q => ⟨#[], by rw [kp b _ q]; simp⟩⟩ (fun b u q => ?_) I.bare fun b z => by simp at z
  · obtain ⟨z1, z2⟩ := low b o q
    rw [off b z1 z2]
    exact n
  · by_cases hb : b ∈ as
    · obtain ⟨j, pk, e1, e2, e3⟩ := LiI.paired_ix atP hb
      rw [e3] at q
      cases q
      obtain ⟨x, y, f1, f2, f3⟩ := hG.pairs j b e1
      rw [List.getElem?_toArray] at f1 f2
      obtain ⟨x', g1, r1⟩ := vals_get vx f1
      obtain ⟨y', g2, r2⟩ := vals_get vy f2
      have e4 : (xs.zip ys)[j]? = some (x', y') := by rw [List.getElem?_zip_eq_some]; exact ⟨g1, g2⟩
      rw [e4] at e2
      cases e2
      exact ⟨by show 2 ≤ sizeLine; decide, [x, y], .cons r1 (.cons r2 .nil), ⟨_, f3, rfl, _, rfl⟩⟩
    · by_cases hb2 : b = S
      · rw [hb2] at q ⊢
        rw [eS] at q
        cases q
        refine ⟨by rw [List.length_map]; omega, acc.toList, c, by rw [hacc]; exact LiI.vals_refs as, ?_⟩
        rw [Array.toArray_toList]
        exact hS
      · rw [off b hb hb2] at q
        exact (I.hok b u q).stay (fun d v _ y => hk d v y) (fun d y => kp d _ y) fun d xs y => kp d _ y
def tListZip (K : PySem.W.Frag) (ta : TA) : TE := fun σ H Q => ta σ H fun vs H1 => ∃ (a b : Addr) (xs ys : List V), vs = [.ref a, .ref b] ∧ SqL K H1 a xs ∧ SqL K H1 b ys ∧ xs.length ≤ 5000 ∧
  ∀ (H' : Hp) (p : Addr) (ts : List Addr), (∀ b o, H1 b = some o → H' b = some o) → H1 p = none → (∀ t ∈ ts, H1 t = none) → H' p = some (.lst (ts.map V.ref)) → Paired (fun (t : Addr) (q : V × V) => H' t = some (.tup [q.1, q.2])) ts (xs.zip ys) → Q (.ref p) H'
/-- list(zip(e, e2)) -/
theorem pe_listZip (hc : X.calm = true) (hg : Gl X "list") (hm : X.mg "list" = none) (hv : bootBuiltins "list" = some (.type "list")) (hg2 : Gl X "zip") (hm2 : X.mg "zip" = none) (ha : PA X [e, e2] ta)
    (hs2 : starEach [e, e2] X.env = (false, eval e X.env) :: starEach [e2] X.env := by rfl) (hpl : (backTo cpos (starEach [e2] X.env)).any (·.1) = false := by rfl)
    (hs : starEach [.Call (.Name "zip" p2) [e, e2] [] cpos] X.env = (false, eval (.Call (.Name "zip" p2) [e, e2] [] cpos) X.env) :: starEach [] X.env := by rfl) :
    PE X (.Call (.Name "list" p) [.Call (.Name "zip" p2) [e, e2] [] cpos] [] pos) (tListZip X.K ta) := by
  refine ⟨fun pins s σ H Q I hq => ?_⟩
  refine wpAny_Call_Name_kw (ld_blt I hg hm hv ?_)
  refine PyProof.Rows.callWith_type1 ?_ hs rfl
  rw [hs]
  show wpAny _ _ (spliced ((false, eval (.Call (.Name "zip" p2) [e, e2] [] cpos) X.env) :: backTo pos (starEach [] X.env))) _ _ s
  refine Calls.spliced_cons ?_
  refine Call_ (ld_blt I hg2 hm2 PyProof.Rows.boot_zip (PyProof.Rows.callWith_type1 (thn (ha.run cpos pins s σ H _ I hq) fun us s1 ⟨vs, H1, I1, r1, q1⟩ => ?_) hs2 hpl))
  obtain ⟨a, b, xs, ys, ex, hqx, hqy, hle, q⟩ := q1
  subst ex
  obtain ⟨its, rv, p1, _⟩ := I1.list hqx
  obtain ⟨its2, rv2, p2', _⟩ := I1.list hqy
  cases r1 with
  | cons r rr =>
    cases rr with
    | cons r' rr =>
      cases rr
      cases r
      cases r'
      refine call_zip_2 p1.isList p2'.isList fun h1 hz hTI hTO hi1 hi2 hsz hk => ?_
      refine Calls.spliced_nil ?_
      have lt : ∀ k : Nat, k < 5 → s1.heap.objs.size + k < h1.objs.size := fun k hk5 => by rw [hsz]; omega
      have up : ∀ {c : Addr}, c < s1.heap.objs.size → c < h1.objs.size := fun h => by rw [hsz]; exact Nat.lt_of_lt_of_le h (Nat.le_add_right _ _)
      have l1 := vals_len rv
      have l2 := vals_len rv2
      have D := PySem.W.ktu_apart s1.heap.objs.size a b p1.lt p2'.lt
      refine zl_call (n := min its.length its2.length) (I1.ok.hd hc) D (by rw [List.size_toArray, List.size_toArray]) (Nat.le_trans (Nat.min_le_left _ _) (by rw [← l1]; exact Nat.le_of_lt (small5000 hle))) (fun S _ => ⟨hTI, hi1, hi2, p1.isList.at fun o e => hk _ o e, p2'.isList.at fun o e => hk _ o e, .inl ⟨hz, _, _, hTO⟩⟩)
        ⟨lt 4 (by decide), lt 2 (by decide), lt 3 (by decide), lt 0 (by decide), lt 1 (by decide), up p1.lt, up p2'.lt⟩ .none hz fun h' tk acc c as hk2 hS hl hG hacc => ?_
      have ne : ∀ {c : Addr} {o : Obj} (k : Nat), s1.heap.get? c = some o → c ≠ s1.heap.objs.size + k := fun k e => Nat.ne_of_lt (Nat.lt_of_lt_of_le (Heap.lt_size e) (Nat.le_add_right _ _))
      obtain ⟨H', k1, k2, k3, k5, k6, J⟩ := zip_laid (tk := tk) (n := min its.length its2.length) I1 (Nat.le_trans (Nat.min_le_left _ _) (by rw [← l1]; exact Nat.le_of_lt (small5000 hle))) (by rw [l1, l2]) rv rv2 (fun b o e => hk2 b o (ne 4 e) (ne 3 e) (ne 0 e) (ne 1 e) (hk b o e)) (by rw [hsz]; exact Nat.le_add_right _ _) hS hl hG hacc
      exact ⟨.ref _, H', J, rfl, q H' _ as k1 k2 k3 k5 k6⟩
end
end LZ

set_option maxHeartbeats 4000000
namespace HS
open PySem PySem.Spec L2
theorem op_inDK {X : Cx} {K : PySem.W.Frag} (hK : X.K = K) (hu : X.A.units + 65 < cLine) : OpR X (compareOp .In) (rInD K) := by
  subst hK
  exact op_inD hu
theorem room_more {A : Around} (r : Room 8 A) : A.units + 65 < cLine := by have := r.un; omega
abbrev NG : List Str := ["spring", "form", "names", "ties", "news", "one", "other", "way", "pairs", "last", "at", "tie"]
theorem sc_rings : FnScope NG ["spring", "form"] (defScope s_law_rings_right) := ⟨rfl, rfl, rfl, by decide +kernel, rfl, by decide +kernel, by decide +kernel⟩
theorem lab_chain {fs : Ties} : ∀ (P : List Str) (u v : Str), P.head? = some u → P.getLast? = some v → (∀ (j : Nat) x y, P[j]? = some x → P[j + 1]? = some y → lab fs x = lab fs y) → lab fs u = lab fs v
  | [], u, v, h, _, _ => by simp at h
  | [a], u, v, h1, h2, _ => by simp at h1 h2; subst h1; subst h2; rfl
  | a :: b :: r, u, v, h1, h2, h => by
    simp at h1
    subst h1
    have := lab_chain (b :: r) b v rfl (by simpa using h2) fun j x y p q => h (j + 1) x y p q
    exact (h 0 a b rfl rfl).trans this
def Hit (cp : Ties) (e : Str × Str) : Prop := e ∈ cp ∨ (e.2, e.1) ∈ cp
theorem mem_steps {P : List Str} {j : Nat} {x y : Str} (h1 : P[j]? = some x) (h2 : P[j + 1]? = some y) : (x, y) ∈ P.zip (P.drop 1) := by
  refine List.mem_iff_getElem?.mpr ⟨j, ?_⟩
  rw [List.getElem?_zip_eq_some, List.getElem?_drop, Nat.add_comm 1 j]
  exact ⟨h1, h2⟩
theorem any_dP (cp : Ties) (e : Str × Str) : (cp.map dP).any (fun z => PyData.eqv z (dP e)) = decide (e ∈ cp) := by
  induction cp with
  | nil => rfl
  | cons a r ih =>
    rw [List.map_cons, List.any_cons, ih, eqv_dP]
    by_cases c : a = e
    · subst c; simp
    · have : ¬ e = a := fun z => c z.symm
      simp [c, this]
theorem sh_dP {e : Str × Str} (h1 : OkS e.1) (h2 : OkS e.2) : SeqAt.shaped (dP e) = true := by
  have h : SeqAt.shaped (dT [e]) = true := sh_dT fun x hx => by simp at hx; subst hx; exact ⟨h1, h2⟩
  unfold SeqAt.shaped
  have h3 : (dP e).canLay0 = true := by
    have := SeqAt.canLay_of_shaped h
    show (dP e).canLay0 = true
    have q : ((dP e).canLay0 && true) = true := this
    simpa using q
  have h4 : (dP e).depth ≤ 64 := by show 1 ≤ 64; decide
  rw [h3, decide_eq_true h4]; rfl
theorem tups_paired {K : PySem.W.Frag} {H : Hp} : ∀ {ts : List Addr} {cp : Ties}, Paired (fun (t : Addr) (q : V × V) => H t = some (.tup [q.1, q.2])) ts (cp.map fun e => (V.str e.1, V.str e.2)) → TupsAt K H (ts.map V.ref) cp
  | [], [], _ => ⟨rfl, fun i v e h => by simp at h⟩
  | t :: ts, e :: cp, .cons r rr => TupsAt.cons ⟨t, rfl, SqT.of r⟩ (tups_paired rr)
structure Marks (es cp : Ties) (i : Nat) (ms : List Int) : Prop where
  lo : ∀ m ∈ ms, ∃ k : Nat, m = (k : Int) ∧ k < i
  hit : ∀ (k : Nat) e, k < i → es[k]? = some e → Hit cp e → (k : Int) ∈ ms
  len : ms.length ≤ i
theorem Marks.yes {es cp : Ties} {i : Nat} {ms : List Int} (h : Marks es cp i ms) : Marks es cp (i + 1) (ms ++ [(i : Int)]) := ⟨fun m hm => by
  rcases List.mem_append.mp hm with hm | hm
  · obtain ⟨k, e, l⟩ := h.lo m hm
    exact ⟨k, e, by omega⟩
  · exact ⟨i, List.mem_singleton.mp hm, by omega⟩, fun k e hk he hh => by
  by_cases c : k = i
  · subst c; simp
  · exact List.mem_append_left _ (h.hit k e (by omega) he hh), by have := h.len; simp; omega⟩
theorem Marks.no {es cp : Ties} {i : Nat} {ms : List Int} {e : Str × Str} (h : Marks es cp i ms) (he : es[i]? = some e) (hn : ¬ Hit cp e) : Marks es cp (i + 1) ms := ⟨fun m hm => by
  obtain ⟨k, e, l⟩ := h.lo m hm
  exact ⟨k, e, by omega⟩, fun k e' hk he' hh => by
  by_cases c : k = i
  · subst c
    rw [he] at he'
    cases he'
    exact absurd hh hn
  · exact h.hit k e' (by omega) he' hh, by have := h.len; omega⟩
section
variable {P : Program} {w : World} {K : PySem.W.Frag} {mg : Str → Option Value} {base : Heap} {D : Ads}
theorem ok_rings (T : Txt K mg D) {Tb : List (Addr × Str)} {c Pt : Addr} (hc : D.d_law_rings_right.code = .ref c) (TB : LamX.TabB base mg c Pt) (hmT : (Pt, ("_law_rings_right.<locals>.<lambda>" : Str)) ∈ Tb) (hu : ∀ p ∈ Tb, p.1 = Pt → p.2 = "_law_rings_right.<locals>.<lambda>") :
    FnOk P w K mg base CX0 9 D.a_law_rings_right D.d_law_rings_right ["spring", "form"] (sp_ref K Tb 1000) := by
  have G1 : FnOk P w K mg base CX0 1 D.a_law_draw D.d_law_draw ["spring", "many"] sp_draw := ok_draw T
  have G2 : FnOk P w K mg base CX0 2 D.a_law_mixed D.d_law_mixed ["spring", "some"] (sp_mixed K) := ok_mixed T
  have G3 : FnOk P w K mg base CX0 2 D.a_law_v_way D.d_law_v_way ["form", "one", "other"] (sp_vway K) := ok_vway T
  have nd := sc_rings.nd
  refine okC T.F_law_rings_right hc sc_rings (fun vs H Q E h => ?_) (fun A outer s H vs Q E hr h => ?_)
  · obtain ⟨sp, f, n, G, ns, es, ws, rfl, _⟩ := h
    rfl
  · obtain ⟨sp, f, n, G, ns, es, ws, rfl, hw, hn, ⟨a, b, c3, ts, ef, ea, eb, tt, ec⟩, dat, q⟩ := h
    have hr8 : Room 8 _ := hr
    have hr2 : Room 2 _ := hr.mono (by decide)
    have hr1 : Room 1 _ := hr.mono (by decide)
    have hun := hr.units
    have hun2 := room_more hr
    refine' ⟨_, pss_cons (ps_asg (pv 1) (pg_tup (by rfl) (pgs_cons (pg_name (i := 2) nd rfl (Or.inr rfl)) (pgs_cons (pg_name (i := 3) nd rfl (Or.inr rfl)) (pgs_cons (pg_name (i := 4) nd rfl (Or.inl rfl)) pgs_nil)))))
      (pss_cons (ps_if (pt_cmpR op_lt (pe_callB call_len_seq (by rfl) T.z_len PySem.boot_len (pa_cons (pv 2) pa_nil)) pe_int (nomark _)) (pss_one (ps_ret pe_bl)) pss_nil)
      (pss_cons (ps_asg (pe_slice sl_list (pe_call G2 hr2 rfl T.g_law_mixed T.F_law_mixed.kp T.b_law_mixed .nil pass0 (pa_cons (pv 0) (pa_cons (pv 2) pa_nil))) po_none (po_some pe_int)) (pg_unl rfl (pgs_cons (pg_name (i := 5) nd rfl (Or.inr rfl)) (pgs_cons (pg_name (i := 6) nd rfl (Or.inr rfl)) pgs_nil))))
      (pss_cons (ps_set (i := 7) nd rfl (Or.inl rfl) (pe_call G3 hr2 rfl T.g_law_v_way T.F_law_v_way.kp T.b_law_v_way .nil pass0 (pa_cons (pv 1) (pa_cons (pv 5) (pa_cons (pv 6) pa_nil)))))
      (pss_cons (ps_set (i := 8) nd rfl (Or.inr rfl) (LZ.pe_listZip rfl (by rfl) T.z_list PyProof.Rows.boot_list (by rfl) T.z_zip (pa_cons (pv 7) (pa_cons (pe_slice sl_list (pv 7) (po_some pe_int) po_none) pa_nil))))
      (pss_cons (ps_set (i := 9) nd rfl (Or.inl rfl) (pe_callB (cr_max rfl) (by rfl) T.z_max PyProof.Rows.boot_max (pa_cons (pe_lc (own := [("at", 10), ("tie", 11)]) (g := gTup K 2 (gCons (gName 10) (gCons (gName 11) gNil))) (tt := tOr (tTest (tOp (rInD K) (tVar 11) (tVar 8))) (tTest (tOp (rInD K) (tRevT K (tVar 11)) (tVar 8)))) rfl nd (pi_enum (by rfl) T.z_enumerate (pa_cons (pv 3) pa_nil)) (blkOk_by (N := NG) (sc := defScope s_law_rings_right) (by decide +kernel)) ?pg ?pt (fun _ _ _ _ _ => pv 10)) pa_nil)))
      (pss_cons (ps_set (i := 10) nd rfl (Or.inr rfl) (pe_op op_add (pe_op op_add (pv 9) pe_int) (pe_call G1 hr1 rfl T.g_law_draw T.F_law_draw.kp T.b_law_draw .nil pass0 (pa_cons (pv 0) (pa_cons (pe_op op_sub (pe_callB call_len_seq (by rfl) T.z_len PySem.boot_len (pa_cons (pv 3) pa_nil)) (pv 9)) pa_nil)))))
      (pss_one (ps_ret (pe_cmpR (op_eqD hun) (pe_met T rfl rfl (by rfl) TB rfl hmT hu hr8 (LamX.lamS_by (sc := defScope s_law_rings_right) (by decide +kernel)) rfl (fun _ _ _ _ _ => rfl) rfl rfl rfl rfl ?a1 (fun _ _ _ _ _ _ _ => rfl) (fun _ _ _ _ _ _ _ => rfl)) (pe_tup (pa_cons pe_str (pa_cons (pv 10) pa_nil))) (nomark _)))))))))), ?_⟩
    case a1 => exact fun _ _ _ _ _ _ _ => pa_cons (pv 2) (pa_cons (pe_op op_cat (pe_slice (sl_listK (K := K) rfl) (pv 3) po_none (po_some (pv 10))) (pe_lst (pa_cons (pe_tup (pa_cons (pv 5) (pa_cons (pv 6) pa_nil))) (pa_cons pe_non pa_nil)))) (pa_cons pe_non pa_nil))
    case pt => exact fun _ _ _ _ _ => pts_one (PW.pt (pw_or (pt_cmpR (op_inDK rfl hun2) (pv 11) (pv 8) (by rfl)) (pw_or1 (pt_cmpR (op_inDK rfl hun2) (pe_revT rfl (pv 11)) (pv 8) (by rfl)))))
    case pg => exact fun _ _ _ _ _ => pg_tupK rfl rfl (pgs_cons (pg_name (i := 10) nd rfl (Or.inl rfl)) (pgs_cons (pg_name (i := 11) nd rfl (Or.inl rfl)) pgs_nil))
    have nl := dat.len
    have tl := dat.tree.len
    have ttl := tt.1
    refine ⟨_, rfl, f, _, rfl, SqT.of (hw.get _ _ ef), rfl, _, _, rfl, _, _, rfl, _, _, rfl, rfl, ?_⟩
    dsimp only
    refine ⟨_, rfl, a, _, rfl, .inl (SqL.of (hw.get _ _ ea)), _, _, rfl, rfl, _, rfl, ite2 (fun c => ?_) (fun c => ?_)⟩
    · exact q H n (by omega) hw
    rw [show (ns.map V.str).length = ns.length from List.length_map ..] at c
    have n3 : 3 ≤ ns.length := by
      have h3 : ¬ ((ns.length : Int) < 3) := fun z => c (decide_eq_true z)
      omega
    dsimp only [tNext]
    refine ⟨_, rfl, _, rfl, sp, a, n, ns.map V.str, rfl, hw.s, by omega, .inl (SqL.of (hw.get _ _ ea)), by simp; omega, fun p ys H1 perm hp e1 spr frm => ?_⟩
    have w1 : Wd Tb sp G (n + ns.length) H1 := by
      rw [List.length_map] at spr
      exact hw.frm frm spr
    obtain ⟨us, pu, rfl⟩ : ∃ us : List Str, us.Perm ns ∧ ys = us.map V.str := perm_map_str perm
    have hul := pu.length_eq
    obtain ⟨u, v, r, rfl⟩ : ∃ u v r, us = u :: v :: r := by
      match us, hul with
      | [], h => simp at h; omega
      | [_], h => simp at h; omega
      | u :: v :: r, _ => exact ⟨u, v, r, rfl⟩
    have um : u ∈ ns := pu.subset (by simp)
    have vm : v ∈ ns := pu.subset (by simp)
    have uv : u ≠ v := fun z => by
      have := pu.nodup_iff.mpr dat.good.2
      subst z
      simp at this
    have ecut : cutV ((u :: v :: r).map V.str) none (some (2 : Int)) = [V.str u, V.str v] := by
      rw [show (2 : Int) = ((2 : Nat) : Int) from rfl, cut_to _ (by simp)]
      rfl
    refine ⟨_, rfl, p, _, rfl, SqL.of e1, fun q1 hq1 => ?_⟩
    rw [ecut]
    have w2 := w1.same (same_new (o := .lst [.str u, .str v]) hq1)
    have e2 : upd H1 q1 (.lst [.str u, .str v]) q1 = some (.lst [.str u, .str v]) := upd_same
    generalize upd H1 q1 (.lst [.str u, .str v]) = H2 at w2 e2 ⊢
    refine ⟨q1, _, rfl, SqL.of e2, rfl, _, _, rfl, _, _, rfl, rfl, ?_⟩
    dsimp only
    refine ⟨_, rfl, _, rfl, _, rfl, f, u, v, ns, es, ws, rfl, ⟨a, b, c3, ts, w2.get _ _ ef, w2.get _ _ ea, w2.get _ _ eb, tt.same w2.get, w2.get _ _ ec⟩, dat, um, vm, fun p3 PP H3 s3 e3 way => ?_⟩
    have w3 := w2.same s3
    have pl := way_len way
    refine ⟨_, rfl, _, rfl, _, rfl, p3, _, rfl, SqL.of e3, fun q4 h4 => ?_⟩
    have ed : cutV (PP.map V.str) (some (1 : Int)) none = (PP.map V.str).drop 1 := by
      have p0 : 1 ≤ PP.length := by
        have := way.1
        cases PP with
        | nil => simp at this
        | cons x r => simp
      rw [show (1 : Int) = ((1 : Nat) : Int) from rfl, cut_from _ (by rw [List.length_map]; exact p0)]
    rw [ed]
    have s4 : Same H3 (upd H3 q4 (.lst ((PP.map V.str).drop 1))) := same_new h4
    have e4 : upd H3 q4 (.lst ((PP.map V.str).drop 1)) q4 = some (.lst ((PP.map V.str).drop 1)) := upd_same
    generalize upd H3 q4 (.lst ((PP.map V.str).drop 1)) = H4 at s4 e4 ⊢
    refine ⟨p3, q4, _, _, rfl, SqL.of (s4 _ _ e3), SqL.of e4, by rw [List.length_map]; omega, fun H5 z tz s5 hz htz e5 pz => ?_⟩
    have w5 := w3.same (s4.trans s5)
    rw [← List.map_drop, List.zip_map] at pz
    have tp : TupsAt K H5 (tz.map V.ref) (PP.zip (PP.drop 1)) := tups_paired pz
    have cok : ∀ e ∈ PP.zip (PP.drop 1), OkS e.1 ∧ OkS e.2 := fun e he => by
      obtain ⟨h1, h2⟩ := List.of_mem_zip (show (e.1, e.2) ∈ _ from he)
      exact ⟨dat.ok _ (way.2.2.2.2 _ h1), dat.ok _ (way.2.2.2.2 _ (List.mem_of_mem_drop h2))⟩
    have steps : ∀ (j : Nat) x y, PP[j]? = some x → PP[j + 1]? = some y → (x, y) ∈ PP.zip (PP.drop 1) := fun j x y => mem_steps
    generalize PP.zip (PP.drop 1) = cp at tp cok steps
    have tl2 := tp.1
    refine ⟨_, rfl, b, _, rfl, SqL.of (w5.get _ _ eb), fun L hL => ?_⟩
    have Lsp := w5.s.ne hL
    have G5 := w5.get
    refine lc_it walk_enum (fun i Y => i ≤ es.length ∧ Same H5 Y ∧ ∃ ms : List Int, Y L = some (.lst (ms.map V.int)) ∧ Marks es cp i ms) ⟨Nat.zero_le _, same_new hL, [], upd_same, fun m h => by simp at h, fun k e h => absurd h (by omega), Nat.le_refl _⟩ (fun i Y _ p => SqL.of (p.2.1 _ _ (w5.get _ _ eb))) (fun i x Y0 Y hi p yy => ?_) fun Y p => ?_
    · obtain ⟨T1, x, y, rfl, hT, rfl, hx, hy⟩ := yy
      obtain ⟨_, sY, ms, eL, hms⟩ := p
      cases hx
      rw [ttl] at hi
      obtain ⟨e, he⟩ : ∃ e, es[i]? = some e := ⟨es[i], by simp [hi]⟩
      obtain ⟨t, rfl, et⟩ := (tt.same (w5.get.trans sY)).2 i y e hy he
      have eT : e ∈ es := List.mem_of_getElem? he
      have sY2 := same_new (o := .tup [.int (i : Nat), .ref t]) hT
      have eL2 := sY2 _ _ eL
      refine ⟨T1, _, rfl, SqT.of upd_same, rfl, _, _, rfl, _, _, rfl, rfl, rfl, ?_⟩
      have sY3 := sY.trans sY2
      generalize upd Y0 T1 (.tup [.int (i : Nat), .ref t]) = Y1 at eL2 sY3 ⊢
      obtain ⟨t', et', et2⟩ := (tt.same (w5.get.trans sY3)).2 i _ e hy he
      cases et'
      have ms2 := hms.len
      have dpc : ∀ {Z : Hp}, Same Y1 Z → Dp K Z (.ref z) (.list (cp.map dP)) := fun sZ => dp_dT (SqL.of (sZ _ _ (sY3 _ _ e5))) (tp.same (sY3.trans sZ))
      have shc : SeqAt.shaped (.list (cp.map dP)) = true := sh_dT cok
      have em := dat.tree.mem e eT
      have ok1 := dat.ok _ em.1
      have ok2 := dat.ok _ em.2
      have yes : Hit cp e → ∀ {Z : Hp}, Same Y1 Z → ∃ acc, Z L = some (.lst acc) ∧ acc.length < sizeLine ∧ i + 1 ≤ es.length ∧ Same H5 (upd Z L (.lst (acc ++ [.int ((i : Nat) : Int)]))) ∧ ∃ ms : List Int, upd Z L (.lst (acc ++ [.int ((i : Nat) : Int)])) L = some (.lst (ms.map V.int)) ∧ Marks es cp (i + 1) ms := fun hh Z sZ =>
        ⟨ms.map V.int, sZ _ _ eL2, small5000 (by rw [List.length_map]; omega), hi, same_upd (sY3.trans sZ) hL, ms ++ [(i : Int)], by rw [upd_same, List.map_append]; rfl, hms.yes⟩
      refine ⟨_, rfl, _, rfl, dP e, cp.map dP, .tup et2 (.cons (.str _) (.cons (.str _) .nil)), dpc (Same.refl _), sh_dP ok1 ok2, shc, _, congrArg V.bl (any_dP cp e), ite2 (fun c => ?_) (fun c => ?_)⟩
      · exact iteT ⟨_, rfl, yes (.inl (of_decide_eq_true c)) (Same.refl _)⟩
      refine ⟨_, rfl, t, _, _, rfl, et2, fun p1 h1 => ⟨_, rfl, dP (e.2, e.1), cp.map dP, .tup (SqT.of upd_same) (.cons (.str _) (.cons (.str _) .nil)), dpc (same_new h1), sh_dP ok2 ok1, shc, _, congrArg V.bl (any_dP cp (e.2, e.1)), ?_⟩⟩
      refine ite2 (fun c2 => ⟨_, rfl, yes (.inr (of_decide_eq_true c2)) (same_new h1)⟩) (fun c2 => ⟨hi, sY3.trans (same_new h1), ms, same_new h1 _ _ eL2, hms.no he fun h => ?_⟩)
      rcases h with h | h
      · exact c (decide_eq_true h)
      · exact c2 (decide_eq_true h)
    obtain ⟨_, sY, ms, eL, hms⟩ := p
    rw [ttl] at hms
    have w6 := w5.same sY
    have mark : ∀ (j : Nat) x y, PP[j]? = some x → PP[j + 1]? = some y → ∃ (k : Nat) (e : Str × Str), es[k]? = some e ∧ (k : Int) ∈ ms ∧ (e = (x, y) ∨ e = (y, x)) := fun j x y h1 h2 => by
      have hc := steps j x y h1 h2
      have lt : ∀ {k : Nat} {e : Str × Str}, es[k]? = some e → k < es.length := fun h => (List.getElem?_eq_some_iff.mp h).1
      rcases chn_at PP j x y way.2.2.2.1 h1 h2 with h | h
      · obtain ⟨k, hk⟩ := List.mem_iff_getElem?.mp h
        exact ⟨k, _, hk, hms.hit k _ (lt hk) hk (.inl hc), .inl rfl⟩
      · obtain ⟨k, hk⟩ := List.mem_iff_getElem?.mp h
        exact ⟨k, _, hk, hms.hit k _ (lt hk) hk (.inr hc), .inr rfl⟩
    have pos : 0 < ms.length := by
      have h1 := way.1
      have h2 := way.2.1
      match PP, h1, h2, mark with
      | [], h1, _, _ => simp at h1
      | [x], h1, h2, _ => simp at h1 h2; exact absurd (h1.symm.trans h2) uv
      | x :: y :: r, _, _, mk =>
        obtain ⟨k, e, _, h, _⟩ := mk 0 x y rfl rfl
        exact List.length_pos_of_mem h
    refine ⟨L, ms, rfl, SqL.of eL, pos, fun m hm hmax => ?_⟩
    obtain ⟨k0, rfl, hk0⟩ := hms.lo m hm
    dsimp only
    refine ⟨_, rfl, _, _, rfl, rfl, _, rfl, _, rfl, b, _, rfl, .inl (SqL.of (w6.get _ _ eb)), _, rfl, _, _, rfl, rfl, sp, _, n + ns.length, rfl, w6.s, by omega, by omega, by omega, fun d L2 d0 d1 hL2 => ?_⟩
    obtain ⟨d, rfl⟩ := Int.eq_ofNat_of_zero_le d0
    refine ⟨_, _, rfl, rfl, ?_⟩
    dsimp only
    have dk : k0 + 1 + d ≤ es.length := by omega
    have ek : ((k0 : Int) + 1 + (d : Int)) = ((k0 + 1 + d : Nat) : Int) := by omega
    rw [ek]
    have labs : lab (es.take (k0 + 1 + d)) u = lab (es.take (k0 + 1 + d)) v := lab_chain PP u v way.1 way.2.1 fun j x y h1 h2 => by
      obtain ⟨k, e, he, hk, ho⟩ := mark j x y h1 h2
      have hle : k ≤ k0 := Int.ofNat_le.mp (hmax _ hk)
      have hin : e ∈ es.take (k0 + 1 + d) := List.mem_iff_getElem?.mpr ⟨k, by rw [List.getElem?_take, if_pos (Nat.lt_of_le_of_lt hle (Nat.lt_of_lt_of_le (Nat.lt_succ_self k0) (Nat.le_add_right _ _)))]; exact he⟩
      have := lab_edge _ e hin
      rcases ho with rfl | rfl
      · exact this
      · exact this.symm
    have w7 : Wd Tb sp G (n + ns.length + 1) (upd Y sp (.lst L2)) := w6.frm frm_upd (spr_upd hL2)
    generalize upd Y sp (.lst L2) = X1 at w7 ⊢
    generalize k0 + 1 + d = at_ at dk labs ⊢
    clear mark steps hms hmax pos hm tp pz way sY w6 w5 w3 w2 w1 e1 e2 e3 e4 e5 eL s3 s4 s5 G5 ek cok tl2
    refine ⟨w7.t, fun X2 eN T2 => ?_⟩
    have V2 := w7.ext eN T2
    refine ⟨_, rfl, _, rfl, _, rfl, _, rfl, b, _, rfl, SqL.of (V2.get _ _ eb), fun r1 h1 => ?_⟩
    rw [cut_to _ (by omega)]
    have t3 : Same X2 (upd X2 r1 (.lst (ts.take at_))) := same_new h1
    have f1 : upd X2 r1 (.lst (ts.take at_)) r1 = some (.lst (ts.take at_)) := upd_same
    generalize upd X2 r1 (.lst (ts.take at_)) = X3 at t3 f1 ⊢
    refine ⟨_, rfl, _, rfl, (by show 2 ≤ sizeLine; decide), fun t ht => ⟨(by show 2 ≤ sizeLine; decide), fun r2 h2 => ?_⟩⟩
    have t4 : Same X3 (upd X3 t (.tup [.str u, .str v])) := same_new ht
    have f2 : upd X3 t (.tup [.str u, .str v]) t = some (.tup [.str u, .str v]) := upd_same
    generalize upd X3 t (.tup [.str u, .str v]) = X4 at t4 f2 h2 ⊢
    have t5 : Same X4 (upd X4 r2 (.lst [.ref t, .non])) := same_new h2
    have f3 : upd X4 r2 (.lst [.ref t, .non]) r2 = some (.lst [.ref t, .non]) := upd_same
    generalize upd X4 r2 (.lst [.ref t, .non]) = X5 at t5 f3 ⊢
    have szt : (ts.take at_).length + [V.ref t, V.non].length ≤ 5000 := by simp; omega
    refine ⟨r1, r2, _, _, rfl, rfl, t5 _ _ (t4 _ _ f1), f3, Nat.le_of_lt (small5000 szt), fun r3 h3 => ?_⟩
    have t6 : Same X5 (upd X5 r3 (.lst (ts.take at_ ++ [.ref t, .non]))) := same_new h3
    have f4 : upd X5 r3 (.lst (ts.take at_ ++ [.ref t, .non])) r3 = some (.lst (ts.take at_ ++ .ref t :: [.non])) := upd_same
    have f5 := t6 _ _ (t5 _ _ f2)
    generalize upd X5 r3 (.lst (ts.take at_ ++ [.ref t, .non])) = X6 at t6 f4 f5 ⊢
    have V6 := V2.same (((t3.trans t4).trans t5).trans t6)
    have lt : (es.take at_).length = at_ := by rw [List.length_take]; omega
    have g6 : Same G X6 := V6.get
    have pk : PairsV K X6 (ts.take at_) (es.take at_) := ⟨by rw [(tt.take at_).1], fun i v e h1 h2 => let ⟨p, x, y⟩ := ((tt.take at_).same g6).2 i v e h1 h2; ⟨p, x, .inr y⟩⟩
    refine refused_make (o := .int (es.take at_).length) (.inr ⟨a, ns, rfl, .inl (SqL.of (g6 _ _ ea)), dat.good, dat.ne, by omega, .inl ⟨.inr ⟨r3, ts.take at_, es.take at_, .ref t :: [.non], rfl, .inl (SqL.of f4), pk, goodT_take dat.tree.good at_, by omega, (fun z => nomatch z), fun b r z => ?_⟩, rfl⟩⟩) (fun z => nomatch z) fun p7 X7 sX e => ?_
    · cases z
      exact ⟨tup_bad (e := (u, v)) ⟨t, rfl, SqT.of f5⟩ um vm labs, rfl⟩
    rw [lt] at e
    refine ⟨_, rfl, (by show 2 ≤ sizeLine; decide), fun t2 ht2 => ?_⟩
    have s9 : Same X7 (upd X7 t2 (.tup [.str "ties", .int (at_ : Int)])) := same_new ht2
    refine ⟨dM "ties" at_, dM "ties" at_, .tup (SqT.of (s9 _ _ e)) (.cons (.str _) (.cons (.int _) .nil)), .tup (SqT.of upd_same) (.cons (.str _) (.cons (.int _) .nil)), sh_dM (by decide +kernel) _, sh_dM (by decide +kernel) _, ?_⟩
    rw [eqv_dM]
    exact q _ (n + ns.length + 1) (by omega) ((V6.same sX).same s9)
end
end HS

set_option maxHeartbeats 4000000
namespace HS
open PySem PySem.Spec L2
theorem sqL_noT {K : PySem.W.Frag} {H : Hp} {a : Addr} {xs : List V} (h : SqL K H a xs) : SqL K (noT H) a xs := by
  rcases h with (h | ⟨o, h⟩) | h
  · exact .inl (.inl (noT_of h fun _ z => by cases z))
  · exact .inl (.inr ⟨o, noT_of h fun _ z => by cases z⟩)
  · exact .inr h
theorem sqT_noT {K : PySem.W.Frag} {H : Hp} {a : Addr} {xs : List V} (h : SqT K H a xs) : SqT K (noT H) a xs := by
  rcases h with (h | ⟨o, h⟩) | h
  · exact .inl (.inl (noT_of h fun _ z => by cases z))
  · exact .inl (.inr ⟨o, noT_of h fun _ z => by cases z⟩)
  · exact .inr h
theorem form_noT {K : PySem.W.Frag} {H : Hp} {f : Addr} {ns : List Str} {es : Ties} {ws : List Int} (h : Form K H f ns es ws) : Form K (noT H) f ns es ws := by
  obtain ⟨a, b, c, ts, h1, h2, h3, h4, h5⟩ := h
  refine ⟨a, b, c, ts, noT_of h1 (fun _ z => nomatch z), noT_of h2 (fun _ z => nomatch z), noT_of h3 (fun _ z => nomatch z), ⟨h4.1, fun i v e x y => ?_⟩, noT_of h5 (fun _ z => nomatch z)⟩
  obtain ⟨p, e1, e2⟩ := h4.2 i v e x y
  exact ⟨p, e1, sqT_noT e2⟩
/-- the people of the great village -/
def gP (k : Nat) : Str := ("p" : Str) ++ ((toString (k : Int) : String) : Str)
theorem gP_name : ∀ k ∈ List.range 60, nameB (gP k) = true ∧ (gP k).length ≤ 1000 := by decide +kernel
theorem gP_ok : ∀ k ∈ List.range 60, OkS (gP k) := by
  have h : ∀ k ∈ List.range 60, PyData.strOk (gP k) = true := by decide +kernel
  exact h
theorem gP_nd : ((List.range 60).map gP).Nodup := by decide +kernel
def nsG : List Str := (List.range 60).map gP
def esG : Ties := (List.range 59).map fun k => (gP ((k + 1) / 2), gP (k + 1))
def wsG : List Int := List.replicate 60 1000000000000000
theorem nsG_good : Good nsG := ⟨fun z hz => by
  obtain ⟨k, hk, rfl⟩ := List.mem_map.mp hz
  exact gP_name k hk, gP_nd⟩
theorem esG_tree : Tree nsG esG := half_tree gP 59 59 (Nat.le_refl _) gP_nd
theorem nsG_ok : ∀ z ∈ nsG, OkS z := fun z hz => by
  obtain ⟨k, hk, rfl⟩ := List.mem_map.mp hz
  exact gP_ok k hk
def sp_law (K : PySem.W.Frag) (Tb : List (Addr × Str)) : Sp := fun vs H Q _ => ∃ (a : Addr) (xs : List Int), vs = [.ref a] ∧ SqL K H a (xs.map V.int) ∧ xs.length ≤ 63 ∧ LamX.Tabs Tb H ∧ ∀ H', Q (.bl true) H'
abbrev NL : List Str := ["script", "turn", "spring", "form", "great", "made", "k"]
theorem sc_law : FnScope NL ["script"] (defScope s_law) := ⟨rfl, rfl, rfl, by decide +kernel, rfl, by decide +kernel, by decide +kernel⟩
section
variable {P : Program} {w : World} {K : PySem.W.Frag} {mg : Str → Option Value} {base : Heap} {D : Ads}
theorem ok_law (T : Txt K mg D) {Tb : List (Addr × Str)} (GR : FnOk P w K mg base CX0 10 D.a_law_refused_right D.d_law_refused_right ["spring", "form"] (sp_ref K Tb 3000)) :
    FnOk P w K mg base CX0 11 D.a_law D.d_law ["script"] (sp_law K Tb) := by
  have G1 : FnOk P w K mg base CX0 1 D.a_law_spring D.d_law_spring ["script", "turn"] (sp_spring K) := ok_spring T
  have G2 : FnOk P w K mg base CX0 4 D.a_law_v_drawn D.d_law_v_drawn ["spring", "most"] (sp_v_drawn K) := ok_v_drawn T
  have G3 : FnOk P w K mg base CX0 7 D.a_law_told_right D.d_law_told_right ["spring", "form"] (sp_told K) := ok_told T
  have G4 : FnOk P w K mg base CX0 8 D.a_law_equal_right D.d_law_equal_right ["spring", "form"] (sp_equal K) := ok_equal T
  have G5 : FnOk P w K mg base (L2.CX P w) 5 D.a_v_init D.d_v_init ["self", "people", "ties", "news"] (sp_vinit K D) := ok_vinit T
  have V1 : FnOk P w K mg base CX0 1 D.a_v_people D.d_v_people ["self"] (sp_vget K D.C fP) := ok_vpeople T
  have V2 : FnOk P w K mg base CX0 1 D.a_v_ties D.d_v_ties ["self"] (sp_vget K D.C (fT K)) := ok_vties T
  have V3 : FnOk P w K mg base CX0 1 D.a_v_news D.d_v_news ["self"] (sp_vget K D.C fW) := ok_vnews T
  have nd := sc_law.nd
  refine T.F_law.ok sc_law (fun vs H Q E h => ?_) (fun cdv A outer s H vs Q E hr h => ?_)
  · obtain ⟨a, xs, rfl, _⟩ := h
    rfl
  · obtain ⟨a, xs, rfl, hS, hl, hT, q⟩ := h
    have hr8 : Room 8 _ := hr.mono (by decide)
    have hr7 : Room 7 _ := hr.mono (by decide)
    have hr4 : Room 4 _ := hr.mono (by decide)
    have hr5 : Room 5 _ := hr.mono (by decide)
    have hr1 : Room 1 _ := hr.mono (by decide)
    have hr6 : Room 6 _ := hr.mono (by decide)
    have hun := hr.units
    refine' ⟨_, pss_cons (ps_for PassesOwn.never rfl (pi_range1 (by rfl) T.z_range (pa_cons pe_int pa_nil)) (pg_name (i := 1) nd rfl (Or.inl rfl))
        (pss_cons (ps_set (i := 2) nd rfl (Or.inl rfl) (pe_call G1 hr1 rfl T.g_law_spring T.F_law_spring.kp T.b_law_spring .nil pass0 (pa_cons (pv 0) (pa_cons (pv 1) pa_nil))))
        (pss_cons (ps_set (i := 3) nd rfl (Or.inl rfl) (pe_call G2 hr4 rfl T.g_law_v_drawn T.F_law_v_drawn.kp T.b_law_v_drawn .nil pass0 (pa_cons (pv 2) (pa_cons pe_int pa_nil))))
        (pss_cons (ps_if (PW.pt (pw_or (pt_not (pt_val (pe_call G3 hr7 rfl T.g_law_told_right T.F_law_told_right.kp T.b_law_told_right .nil pass0 (pa_cons (pv 2) (pa_cons (pv 3) pa_nil)))))
            (pw_or1 (pt_not (pt_val (pe_call G4 hr8 rfl T.g_law_equal_right T.F_law_equal_right.kp T.b_law_equal_right .nil pass0 (pa_cons (pv 2) (pa_cons (pv 3) pa_nil)))))))) pss_no pss_nil)
        (pss_one (ps_if (pt_not (pt_val (pe_call GR hr rfl T.g_law_refused_right T.F_law_refused_right.kp T.b_law_refused_right .nil pass0 (pa_cons (pv 2) (pa_cons (pv 3) pa_nil))))) pss_no pss_nil))))))
      (pss_cons (ps_set (i := 4) nd rfl (Or.inr rfl) (pe_lc (own := [("k", 6)]) (g := gName 6) (tt := tYes) rfl nd (pi_range1 (by rfl) T.z_range (pa_cons pe_int pa_nil)) (blkOk_by (N := NL) (sc := defScope s_law) (by decide +kernel))
          (fun _ _ _ _ _ => pg_name (i := 6) nd rfl (Or.inl rfl)) (fun _ _ _ _ _ => pts_nil) (fun _ _ _ _ _ => pe_op op_add_str pe_str (pe_callTy call_str_int (by rfl) T.z_str PyProof.Rows.boot_str (pa_cons (pv 6) pa_nil)))))
      (pss_cons (ps_set (i := 5) nd rfl (Or.inl rfl) (pe_make (C := D.C) T.mkr G5 hr6 rfl T.gC T.b_v_init .nil pass9 (pa_cons (pv 4)
          (pa_cons (pe_lc (own := [("k", 6)]) (g := gName 6) (tt := tYes) rfl nd (pi_range2 (by rfl) T.z_range (pa_cons pe_int (pa_cons pe_int pa_nil))) (blkOk_by (N := NL) (sc := defScope s_law) (by decide +kernel))
            (fun _ _ _ _ _ => pg_name (i := 6) nd rfl (Or.inl rfl)) (fun _ _ _ _ _ => pts_nil) ?inner)
          (pa_cons (pe_op op_rep (pe_lst (pa_cons (pe_op op_pow pe_int pe_int) pa_nil)) pe_int) pa_nil)))))
      (pss_one (ps_ret (pe_and (pe_cmpR (op_eqD hun) (pe_meth0 (pv 5) T.cl T.m_v_people V1 hr1 T.b_v_people .nil pass0) (pv 4) (nomark _))
        (pe_and (pe_cmpR (op_eqD hun) (pe_meth0 (pv 5) T.cl T.m_v_news V3 hr1 T.b_v_news .nil pass0) (pe_op op_rep (pe_lst (pa_cons (pe_op op_pow pe_int pe_int) pa_nil)) pe_int) (nomark _))
        (pe_one (pe_cmpR op_eq (pe_callB call_len_seq (by rfl) T.z_len PySem.boot_len (pa_cons (pe_meth0 (pv 5) T.cl T.m_v_ties V2 hr1 T.b_v_ties .nil pass0) pa_nil)) pe_int (nomark _))))))))), ?_⟩
    case inner => exact fun _ _ _ _ _ => pe_tup (pa_cons (pe_ix (ix_listK (K := K) rfl) (pv 4) (pe_op op_fdiv (pv 6) pe_int) (fun _ _ => rfl)) (pa_cons (pe_ix (ix_listK (K := K) rfl) (pv 4) (pv 6) (fun _ _ => rfl)) pa_nil))
    refine ⟨3, rfl, by decide, by decide, ?_⟩
    refine for_it walk_range (fun i σ X => SqL K X a (xs.map V.int) ∧ LamX.Tabs Tb X ∧ ∃ v1 v2 v3, σ = [some (.ref a), v1, v2, v3, none, none, none]) ⟨hS, hT, none, none, none, rfl⟩ (fun _ _ _ _ _ => trivial) ?_ ?_
    · rintro i v σ X' X hi ⟨hS, hT, v1, v2, v3, rfl⟩ ⟨rfl, rfl⟩
      have hi3 : i < 3 := hi
      refine ⟨_, rfl, _, rfl, a, _, xs, rfl, hS, hl, by omega, by omega, fun p H1 hp hs1 s1 => ?_⟩
      have S1 : SqL K (del H1 p) a (xs.map V.int) := by
        refine Same.seq (H := X) (fun b o e => ?_) hS
        have bp : b ≠ p := ne_of_none e hp
        rw [del_ne bp]
        exact s1 _ _ e
      have T1 : LamX.Tabs Tb H1 := hT.ext s1
      refine ⟨_, rfl, p, 9, 0, rfl, hs1, by decide, by decide, by decide, fun f ns es ws H2 dat form hs2 f2 => ?_⟩
      have T2 : LamX.Tabs Tb H2 := tabs_frm T1 hs1 f2
      refine ⟨_, rfl, _, rfl, p, f, 1000, ns, es, ws, rfl, hs2.mono (by decide), by decide, form, dat, fun H3 hs3 f3 => ?_⟩
      have T3 := tabs_frm T2 hs2 f3
      have form3 := form.same f3
      refine ⟨_, rfl, iteF ?_⟩
      refine ⟨_, rfl, _, rfl, p, f, 1400, ns, es, ws, rfl, hs3, by decide, form3, dat, fun H4 hs4 f4 => ?_⟩
      have T4 := tabs_frm T3 hs3 f4
      have form4 := form3.same f4
      refine ⟨_, rfl, iteF ?_⟩
      have S4 : SqL K (GN p H4) a (xs.map V.int) := sqL_noT (Same.seq f4 (Same.seq f3 (Same.seq f2 S1)))
      dsimp only
      refine ⟨_, rfl, _, rfl, p, f, 4400, GN p H4, ns, es, ws, rfl, ⟨Same.refl _, hs4, T4⟩, by decide, form_noT form4, dat, fun H5 n5 h5 W5 => ?_⟩
      refine ⟨_, rfl, iteF ?_⟩
      exact ⟨Same.seq W5.get S4, W5.t, _, _, _, rfl⟩
    · rintro σ X ⟨_, _, v1, v2, v3, rfl⟩
      refine ⟨_, rfl, by decide, by decide, fun L hL => ?_⟩
      refine lc_it walk_range (fun i Y => i ≤ 60 ∧ Same X Y ∧ Y L = some (.lst (((List.range i).map gP).map V.str))) ⟨Nat.zero_le _, same_new hL, upd_same⟩ (fun _ _ _ _ => trivial) (fun i v Y0 Y hi p yy => ?_) fun Y p => ?_
      · obtain ⟨rfl, rfl⟩ := yy
        obtain ⟨_, sY, eL⟩ := p
        have hi60 : i < 60 := hi
        have e0 : (0 + (i : Int)) = i := by omega
        have gl : (("p" : Str)).length + ((toString (i : Int) : String) : Str).length ≤ sizeLine := by
          have h : ∀ k ∈ List.range 60, ("p" : Str).length + ((toString (k : Int) : String) : Str).length ≤ 16777216 := by decide +kernel
          exact h i (List.mem_range.mpr hi60)
        refine ⟨rfl, _, rfl, _, rfl, ?_, _, _, rfl, rfl, ?_, _, eL, small5000 (by simp; omega), hi, same_upd sY hL, ?_⟩
        · rw [e0]
          have h : ∀ k ∈ List.range 60, (k : Int).natAbs.log2 < 1920 := by decide +kernel
          exact h i (List.mem_range.mpr hi60)
        · rw [e0]
          exact gl
        · rw [e0, upd_same, List.range_succ, List.map_append, List.map_append]
          rfl
      obtain ⟨_, sY, eL⟩ := p
      have e1 : Y L = some (.lst (nsG.map V.str)) := eL
      clear eL
      refine ⟨_, rfl, _, _, rfl, ⟨by decide, by decide, by decide, by decide⟩, fun L2 hL2 => ?_⟩
      refine lc_it walk_range (fun i Z => i ≤ 59 ∧ Same Y Z ∧ ∃ acc, Z L2 = some (.lst acc) ∧ TupsAt K (del Z L2) acc ((List.range i).map fun k => (gP ((k + 1) / 2), gP (k + 1)))) ⟨Nat.zero_le _, same_new hL2, [], upd_same, rfl, fun j v e h => by simp at h⟩ (fun _ _ _ _ => trivial) (fun i v Z0 Z hi p yy => ?_) fun Z p => ?_
      · obtain ⟨rfl, rfl⟩ := yy
        obtain ⟨_, sZ, acc, eL2, hacc⟩ := p
        have hi59 : i < 59 := hi
        have e0 : (1 + (i : Int)) = ((i + 1 : Nat) : Int) := by omega
        have eL1 := sZ _ _ e1
        have at_ : ∀ (z : Int) (j : Nat), z = (j : Int) → j < 60 → atI (nsG.map V.str) z = some (.str (gP j)) := by
          rintro z j rfl hj
          exact atI_nat (by simp [nsG, hj])
        have ac := hacc.1
        rw [List.length_map, List.length_range] at ac
        refine ⟨rfl, _, rfl, _, rfl, _, _, rfl, rfl, ⟨by decide, by decide⟩, L, nsG.map V.str, _, .str (gP ((i + 1) / 2)), rfl, rfl, SqL.of eL1, at_ _ _ (by omega) (by omega), _, rfl, _, rfl, L, nsG.map V.str, _, .str (gP (i + 1)), rfl, rfl, SqL.of eL1, at_ _ _ e0 (by omega), (by show 2 ≤ sizeLine; decide), fun q1 h1 => ?_⟩
        have Lq : L2 ≠ q1 := ne_of_none eL2 h1
        refine ⟨acc, by rw [upd_ne Lq]; exact eL2, small5000 (by omega), hi, same_upd (Same.new' sZ h1) hL2, acc ++ [.ref q1], upd_same, ?_⟩
        rw [del_upd_same, List.range_succ, List.map_append]
        exact (hacc.same (same_del (same_new h1))).snoc (e := (gP ((i + 1) / 2), gP (i + 1))) (SqT.of (del_of Lq.symm upd_same))
      obtain ⟨_, sZ, acc, eL2, hacc⟩ := p
      have tt : TupsAt K Z acc esG := TupsAt.same del_le hacc
      have e2 := sZ _ _ e1
      clear hacc
      refine ⟨_, _, rfl, rfl, ⟨by decide, by decide, by decide⟩, (by show 1 ≤ sizeLine; decide), fun q3 h3 => ?_⟩
      have s3 : Same Z (upd Z q3 (.lst [.int ((10 : Int) ^ (15 : Int).toNat)])) := same_new h3
      have f3 : upd Z q3 (.lst [.int ((10 : Int) ^ (15 : Int).toNat)]) q3 = some (.lst [.int ((10 : Int) ^ (15 : Int).toNat)]) := upd_same
      generalize upd Z q3 (.lst [.int ((10 : Int) ^ (15 : Int).toNat)]) = Z1 at s3 f3 ⊢
      refine ⟨q3, _, _, rfl, rfl, f3, by decide, by decide, (by show 1 * 60 ≤ sizeLine; decide), fun q4 h4 => ?_⟩
      have ew : (List.replicate (60 : Int).toNat [V.int ((10 : Int) ^ (15 : Int).toNat)]).flatten = wsG.map V.int := by rfl
      rw [ew]
      have s4 : Same Z1 (upd Z1 q4 (.lst (wsG.map V.int))) := same_new h4
      have f4 : upd Z1 q4 (.lst (wsG.map V.int)) q4 = some (.lst (wsG.map V.int)) := upd_same
      generalize upd Z1 q4 (.lst (wsG.map V.int)) = Z2 at s4 f4 ⊢
      have s34 := s3.trans s4
      have tv : PairsV K Z2 acc esG := ⟨tt.1, fun i v e h1 h2 => let ⟨p, x, y⟩ := (tt.same s34).2 i v e h1 h2; ⟨p, x, .inr y⟩⟩
      refine make_good (pa := L) (ta := L2) (na := q4) (.inl (SqL.of (s34 _ _ e2))) (.inl (SqL.of (s34 _ _ eL2))) tv (.inl (SqL.of f4)) nsG_good (by decide +kernel) (by decide +kernel) esG_tree (by decide +kernel) (by decide +kernel) fun x Z3 hx s5 hv => ?_
      have vil : Vil K D.C Z3 x nsG esG wsG := hv.same fr_le
      have eL3 := s5 _ _ (s34 _ _ e2)
      clear hv tv tt f4 f3 eL2 s4 s3
      have at_ : ∀ {Y' : Hp}, Same Z3 Y' → ∃ dx pp pt pw pf, Y' x = some (.ins D.C dx (vf pp pt pw pf)) := fun s => by
        obtain ⟨dx, pp, pt, pw, pf, ts, la, e1, _⟩ := (vil.same s).ex
        exact ⟨dx, pp, pt, pw, pf, e1⟩
      obtain ⟨dx, pp, pt, pw, pf, v1⟩ := at_ (Same.refl _)
      refine ⟨_, rfl, x, dx, _, rfl, v1, (vf_no _ _ _ _).1, x, nsG, esG, wsG, rfl, vil, fun p1 x1 Y1 hp1 s1 ep1 f1 => ?_⟩
      change x1 = _ at f1
      subst f1
      refine ⟨_, rfl, dN nsG, dN nsG, dp_dN (SqL.of ep1), dp_dN (SqL.of (s1 _ _ eL3)), sh_dN nsG_ok, sh_dN nsG_ok, _, rfl, ?_⟩
      rw [eqv_dN, decide_eq_true rfl]
      refine iteT ?_
      obtain ⟨dx1, pp1, pt1, pw1, pf1, v2⟩ := at_ s1
      refine ⟨_, rfl, x, dx1, _, rfl, v2, (vf_no _ _ _ _).2.2, x, nsG, esG, wsG, rfl, vil.same s1, fun p2 x2 Y2 hp2 s2 ep2 f2 => ?_⟩
      change x2 = _ at f2
      subst f2
      have s12 := s1.trans s2
      refine ⟨_, _, rfl, rfl, ⟨by decide, by decide, by decide⟩, (by show 1 ≤ sizeLine; decide), fun q5 h5 => ?_⟩
      have s6 : Same Y2 (upd Y2 q5 (.lst [.int ((10 : Int) ^ (15 : Int).toNat)])) := same_new h5
      have f6 : upd Y2 q5 (.lst [.int ((10 : Int) ^ (15 : Int).toNat)]) q5 = some (.lst [.int ((10 : Int) ^ (15 : Int).toNat)]) := upd_same
      generalize upd Y2 q5 (.lst [.int ((10 : Int) ^ (15 : Int).toNat)]) = Y3 at s6 f6 ⊢
      refine ⟨q5, _, _, rfl, rfl, f6, by decide, by decide, (by show 1 * 60 ≤ sizeLine; decide), fun q6 h6 => ?_⟩
      rw [ew]
      have s7 : Same Y3 (upd Y3 q6 (.lst (wsG.map V.int))) := same_new h6
      have f7 : upd Y3 q6 (.lst (wsG.map V.int)) q6 = some (.lst (wsG.map V.int)) := upd_same
      generalize upd Y3 q6 (.lst (wsG.map V.int)) = Y4 at s7 f7 ⊢
      have s67 := s6.trans s7
      refine ⟨dW wsG, dW wsG, dp_dW (SqL.of (s67 _ _ ep2)), dp_dW (SqL.of f7), sh_dW _, sh_dW _, _, rfl, ?_⟩
      rw [eqv_dW, decide_eq_true rfl]
      refine iteT ?_
      have s17 := s12.trans s67
      obtain ⟨dx2, pp2, pt2, pw2, pf2, v3⟩ := at_ s17
      refine ⟨_, rfl, x, dx2, _, rfl, v3, (vf_no _ _ _ _).2.1, x, nsG, esG, wsG, rfl, vil.same s17, fun p3 x3 Y5 hp3 s3 ep3 f3 => ?_⟩
      change TupsAt K Y5 x3 esG at f3
      refine ⟨p3, _, rfl, .inl (SqL.of ep3), ?_⟩
      have l3 : (x3.length : Int) = 59 := by rw [f3.1]; rfl
      have hb : ∀ b : Bool, b = true → Q (.bl b) Y5 := fun b e => by rw [e]; exact q _
      refine ⟨rfl, hb _ ?_⟩
      rw [l3]
      exact decide_eq_true rfl
end
end HS

set_option maxHeartbeats 0
/-! the head -/
namespace HS
open PySem PySem.Spec L2
def clsOk (K : PySem.W.Frag) (C : Addr) : Bool := match K.lookup C with
  | some ⟨.type "type", _, .cls cd, sl⟩ => (match cd.mro, sl.toList with
    | .ref C' :: bm, [_, _, _, _, some (.builtin _), _] => C' == C && (!cd.hasDel && bm.contains (.type "object"))
    | _, _ => false)
  | _ => false
theorem clsOk_ok {K : PySem.W.Frag} {C : Addr} (q : clsOk K C = true) : ∃ nm q N bs bm hdct sn sub ab col dd k0 k1 k2 k3 k5 newId, K.lookup C = some (excClassObj nm q C N bs bm hdct sn sub ab col dd k0 k1 k2 k3 k5 newId) ∧ bm.contains (.type "object") = true := by
  unfold clsOk at q
  split at q
  · rename_i dd cd sl ho
    split at q
    · rename_i C' bm k0 k1 k2 k3 n k5 hm hs
      simp only [Bool.and_eq_true, beq_iff_eq, Bool.not_eq_true'] at q
      obtain ⟨rfl, hdel, ht⟩ := q
      obtain ⟨nm, bs, mro, ns, qn, hd, sn, sub, ab, col, del⟩ := cd
      dsimp only at hm hdel
      subst hm hdel
      have hsl : sl = #[k0, k1, k2, k3, some (.builtin n), k5] := by
        obtain ⟨l⟩ := sl
        simp only at hs
        rw [hs]
      subst hsl
      exact ⟨nm, qn, ns, bs, bm, hd, sn, sub, ab, col, dd, k0, k1, k2, k3, k5, n, ho, ht⟩
    · cases q
  · cases q
def oxB (K : PySem.W.Frag) (C : Addr) : Bool := match K.lookup C with
  | some ⟨.type "type", _, .cls cd, sl⟩ => (match cd.mro, sl.toList with
    | .ref C' :: bm, [_, _, _, _, some (.builtin n), _] => C' == C && (!cd.hasDel && (cd.hasDict && (n == "ValueError.__new__" && PySem.HandSPX.refsVE bm)))
    | _, _ => false)
  | _ => false
theorem oxB_ok {K : PySem.W.Frag} {C : Addr} (q : oxB K C = true) : ∃ nm q N bs bm sn sub ab col dd k0 k1 k2 k3 k5, K.lookup C = some (excClassObj nm q C N bs bm true sn sub ab col dd k0 k1 k2 k3 k5 "ValueError.__new__") ∧ PySem.HandSPX.refsVE bm = true := by
  unfold oxB at q
  split at q
  · rename_i dd cd sl ho
    split at q
    · rename_i C' bm k0 k1 k2 k3 n k5 hm hs
      simp only [Bool.and_eq_true, beq_iff_eq, Bool.not_eq_true'] at q
      obtain ⟨rfl, hdel, hdict, rfl, ht⟩ := q
      obtain ⟨nm, bs, mro, ns, qn, hd, sn, sub, ab, col, del⟩ := cd
      dsimp only at hm hdel hdict
      subst hm hdel hdict
      have hsl : sl = #[k0, k1, k2, k3, some (.builtin "ValueError.__new__"), k5] := by
        obtain ⟨l⟩ := sl
        simp only at hs
        rw [hs]
      subst hsl
      exact ⟨nm, qn, ns, bs, bm, sn, sub, ab, col, dd, k0, k1, k2, k3, k5, ho, ht⟩
    · cases q
  · cases q
theorem ox_of {K : PySem.W.Frag} {x : Str} (a : oxB K (He.ga K x) = true) (b : He.eqO (PySem.W.findIn K (.ref (He.ga K x)) "__setattr__") (some (some (.builtin "object.__setattr__"))) = true)
    (c : (PySem.W.keepIn K (.ref (He.ga K x)) && (decide (PySem.W.subIn K (.ref (He.ga K x)) (.type "BaseException") = some true) && decide (PySem.W.typeIn K (.ref (He.ga K x)) = some (.type "type")))) = true) : OexC K (He.ga K x) := by
  obtain ⟨c1, c⟩ := He.ba c
  obtain ⟨c2, c3⟩ := He.ba c
  exact ⟨oxB_ok a, He.eqO_ok b, of_decide_eq_true c2, of_decide_eq_true c3, c1⟩
/-- a function's record -/
def fdD (K : PySem.W.Frag) (p : Str × Option Str) : FuncData := match K.lookup (He.fAd K p) with
  | some ⟨_, _, .func fd, _⟩ => fd
  | _ => PySem.W.fnOf "" "" (defArgs s_law) [] (defScope s_law) .none .none .none .none none .none .none
abbrev mkD (p : Str × Option Str) (nm q : Str) (st : Stmt) : He.DefD := ⟨p, nm, q, defArgs st, defBody st, defScope st, [], []⟩
theorem fun_at {K : PySem.W.Frag} {p : Str × Option Str} {nm q : Str} {st : Stmt} (h : ∃ fd, FunD K nm q (defArgs st) (defBody st) (defScope st) ((mkD p nm q st).dvs K) ((mkD p nm q st).kws K) (He.fAd K p) fd) : Fun K nm q st (He.fAd K p) (fdD K p) := by
  obtain ⟨fd, F⟩ := h
  obtain ⟨oc, od, dV, kV, doc, pm, an, cdv, ct, osl, rfl, lk, hcd, dfl, kwd⟩ := F.ex
  have e : dV = .none := by
    rcases dfl with ⟨_, e⟩ | ⟨n, _⟩
    · exact e
    · exact absurd rfl n
  subst e
  have e2 : fdD K p = PySem.W.fnOf nm q (defArgs st) (defBody st) (defScope st) .none kV doc pm an cdv ct := by
    unfold fdD
    rw [lk]
  rw [e2]
  exact ⟨⟨oc, od, kV, doc, pm, an, cdv, ct, osl, rfl, lk, hcd⟩, F.kp⟩
theorem code_at {K : PySem.W.Frag} {p : Str × Option Str} {nm q : Str} {st : Stmt} (F : Fun K nm q st (He.fAd K p) (fdD K p)) : (fdD K p).code = .ref (He.codeOf K p) := by
  obtain ⟨oc, od, kV, doc, pm, an, cdv, ct, osl, e, lk, hcd⟩ := F.ex
  obtain ⟨c, rfl⟩ := He.codeIn_ref hcd
  have h : (fdD K p).code = .ref c := by rw [e]
  rw [He.codeOf_eq lk h, h]
def dd_is_list : He.DefD := mkD ("is_list", none) "is_list" "is_list" s_is_list
def dd_is_integer : He.DefD := mkD ("is_integer", none) "is_integer" "is_integer" s_is_integer
def dd_is_name : He.DefD := mkD ("is_name", none) "is_name" "is_name" s_is_name
def dd_is_one_of : He.DefD := mkD ("is_one_of", none) "is_one_of" "is_one_of" s_is_one_of
def dd_is_pair_of : He.DefD := mkD ("is_pair_of", none) "is_pair_of" "is_pair_of" s_is_pair_of
def dd_check_person : He.DefD := mkD ("check_person", none) "check_person" "check_person" s_check_person
def dd_check_people : He.DefD := mkD ("check_people", none) "check_people" "check_people" s_check_people
def dd_first_bad_name : He.DefD := mkD ("first_bad_name", none) "first_bad_name" "first_bad_name" s_first_bad_name
def dd_check_ties : He.DefD := mkD ("check_ties", none) "check_ties" "check_ties" s_check_ties
def dd_first_bad_tie : He.DefD := mkD ("first_bad_tie", none) "first_bad_tie" "first_bad_tie" s_first_bad_tie
def dd_join_parts : He.DefD := mkD ("join_parts", none) "join_parts" "join_parts" s_join_parts
def dd_check_news : He.DefD := mkD ("check_news", none) "check_news" "check_news" s_check_news
def dd_first_bad_amount : He.DefD := mkD ("first_bad_amount", none) "first_bad_amount" "first_bad_amount" s_first_bad_amount
def dd_friends_by_ties : He.DefD := mkD ("friends_by_ties", none) "friends_by_ties" "friends_by_ties" s_friends_by_ties
def dd_inward_from : He.DefD := mkD ("inward_from", none) "inward_from" "inward_from" s_inward_from
def dd_toward_from : He.DefD := mkD ("toward_from", none) "toward_from" "toward_from" s_toward_from
def dd_law_spring : He.DefD := mkD ("_law_spring", none) "_law_spring" "_law_spring" s_law_spring
def dd_law_draw : He.DefD := mkD ("_law_draw", none) "_law_draw" "_law_draw" s_law_draw
def dd_law_pick : He.DefD := mkD ("_law_pick", none) "_law_pick" "_law_pick" s_law_pick
def dd_law_mixed : He.DefD := mkD ("_law_mixed", none) "_law_mixed" "_law_mixed" s_law_mixed
def dd_law_same : He.DefD := mkD ("_law_same", none) "_law_same" "_law_same" s_law_same
def dd_law_loose : He.DefD := mkD ("_law_loose", none) "_law_loose" "_law_loose" s_law_loose
def dd_law_v_names : He.DefD := mkD ("_law_v_names", none) "_law_v_names" "_law_v_names" s_law_v_names
def dd_law_v_ties : He.DefD := mkD ("_law_v_ties", none) "_law_v_ties" "_law_v_ties" s_law_v_ties
def dd_law_v_drawn : He.DefD := mkD ("_law_v_drawn", none) "_law_v_drawn" "_law_v_drawn" s_law_v_drawn
def dd_law_v_friends : He.DefD := mkD ("_law_v_friends", none) "_law_v_friends" "_law_v_friends" s_law_v_friends
def dd_law_v_way : He.DefD := mkD ("_law_v_way", none) "_law_v_way" "_law_v_way" s_law_v_way
def dd_law_v_made : He.DefD := mkD ("_law_v_made", none) "_law_v_made" "_law_v_made" s_law_v_made
def dd_law_met : He.DefD := mkD ("_law_met", none) "_law_met" "_law_met" s_law_met
def dd_law_told_right : He.DefD := mkD ("_law_told_right", none) "_law_told_right" "_law_told_right" s_law_told_right
def dd_law_equal_right : He.DefD := mkD ("_law_equal_right", none) "_law_equal_right" "_law_equal_right" s_law_equal_right
def dd_law_odd_people : He.DefD := mkD ("_law_odd_people", none) "_law_odd_people" "_law_odd_people" s_law_odd_people
def dd_law_odd_ties : He.DefD := mkD ("_law_odd_ties", none) "_law_odd_ties" "_law_odd_ties" s_law_odd_ties
def dd_law_refused_right : He.DefD := mkD ("_law_refused_right", none) "_law_refused_right" "_law_refused_right" s_law_refused_right
def dd_law_news_right : He.DefD := mkD ("_law_news_right", none) "_law_news_right" "_law_news_right" s_law_news_right
def dd_law_rings_right : He.DefD := mkD ("_law_rings_right", none) "_law_rings_right" "_law_rings_right" s_law_rings_right
def dd_law : He.DefD := mkD ("law", none) "law" "law" s_law
def dd_v_init : He.DefD := mkD ("Village", some "__init__") "__init__" "Village.__init__" s_v_init
def dd_v_eq : He.DefD := mkD ("Village", some "__eq__") "__eq__" "Village.__eq__" s_v_eq
def dd_v_people : He.DefD := mkD ("Village", some "people") "people" "Village.people" s_v_people
def dd_v_ties : He.DefD := mkD ("Village", some "ties") "ties" "Village.ties" s_v_ties
def dd_v_news : He.DefD := mkD ("Village", some "news") "news" "Village.news" s_v_news
def dd_v_friends : He.DefD := mkD ("Village", some "friends") "friends" "Village.friends" s_v_friends
def dd_v_way : He.DefD := mkD ("Village", some "way") "way" "Village.way" s_v_way
def dd_v_behind : He.DefD := mkD ("Village", some "behind") "behind" "Village.behind" s_v_behind
def dd_x_BadPeople : He.DefD := mkD ("BadPeople", some "__init__") "__init__" "BadPeople.__init__" s_x_BadPeople
def dd_x_BadTies : He.DefD := mkD ("BadTies", some "__init__") "__init__" "BadTies.__init__" s_x_BadTies
def dd_x_BadNews : He.DefD := mkD ("BadNews", some "__init__") "__init__" "BadNews.__init__" s_x_BadNews
def dd_x_NoPerson : He.DefD := mkD ("NoPerson", some "__init__") "__init__" "NoPerson.__init__" s_x_NoPerson
def fnL0 : List He.DefD := [dd_is_list, dd_is_integer, dd_is_name, dd_is_one_of, dd_is_pair_of, dd_check_person, dd_check_people, dd_first_bad_name, dd_check_ties, dd_first_bad_tie, dd_join_parts, dd_check_news, dd_first_bad_amount, dd_friends_by_ties, dd_inward_from, dd_toward_from, dd_law_spring, dd_law_draw, dd_law_pick, dd_law_mixed, dd_law_same, dd_law_loose, dd_law_v_names, dd_law_v_ties, dd_law_v_drawn, dd_law_v_friends, dd_law_v_way, dd_law_v_made, dd_law_met, dd_law_told_right]
def fnL1 : List He.DefD := [dd_law_equal_right, dd_law_odd_people, dd_law_odd_ties, dd_law_refused_right, dd_law_news_right, dd_law_rings_right, dd_law, dd_v_init, dd_v_eq, dd_v_people, dd_v_ties, dd_v_news, dd_v_friends, dd_v_way, dd_v_behind, dd_x_BadPeople, dd_x_BadTies, dd_x_BadNews, dd_x_NoPerson]
def fnL : List He.DefD := fnL0 ++ fnL1
def faL0 : List He.Fa := [.glo "is_list", .glo "is_integer", .glo "is_name", .glo "is_one_of", .glo "is_pair_of", .glo "check_person", .glo "check_people", .glo "first_bad_name", .glo "check_ties", .glo "first_bad_tie", .glo "join_parts", .glo "check_news", .glo "first_bad_amount", .glo "friends_by_ties", .glo "inward_from", .glo "toward_from", .glo "_law_spring", .glo "_law_draw", .glo "_law_pick", .glo "_law_mixed", .glo "_law_same", .glo "_law_loose", .glo "_law_v_names", .glo "_law_v_ties", .glo "_law_v_drawn", .glo "_law_v_friends", .glo "_law_v_way", .glo "_law_v_made", .glo "_law_met", .glo "_law_told_right"]
def faL1 : List He.Fa := [.glo "_law_equal_right", .glo "_law_odd_people", .glo "_law_odd_ties", .glo "_law_refused_right", .glo "_law_news_right", .glo "_law_rings_right", .glo "law", .glo "Village", .cls "Village", .mkr "Village", .noat "Village" "_people", .noat "Village" "_ties", .noat "Village" "_news", .noat "Village" "_friends", .meth "Village" "__init__", .meth "Village" "__eq__", .meth "Village" "people", .meth "Village" "ties", .meth "Village" "news", .meth "Village" "friends", .meth "Village" "way", .meth "Village" "behind", .glo "BadPeople", .noat "BadPeople" "index", .meth "BadPeople" "__init__", .exm "BadPeople" "BadPeople" true, .glo "BadTies", .noat "BadTies" "index", .meth "BadTies" "__init__", .exm "BadTies" "BadTies" true]
def faL2 : List He.Fa := [.glo "BadNews", .noat "BadNews" "index", .meth "BadNews" "__init__", .exm "BadNews" "BadNews" true, .glo "NoPerson", .noat "NoPerson" "person", .meth "NoPerson" "__init__", .exm "NoPerson" "NoPerson" true, .exm "BadPeople" "BadTies" false, .exm "BadPeople" "BadNews" false, .exm "BadPeople" "NoPerson" false, .exm "BadTies" "BadPeople" false, .exm "BadTies" "BadNews" false, .exm "BadTies" "NoPerson" false, .exm "BadNews" "BadPeople" false, .exm "BadNews" "BadTies" false, .exm "BadNews" "NoPerson" false, .exm "NoPerson" "BadPeople" false, .exm "NoPerson" "BadTies" false, .exm "NoPerson" "BadNews" false, .free "isinstance", .free "list", .free "tuple", .free "int", .free "bool", .free "str", .free "dict", .free "len", .free "all", .free "any"]
def faL3 : List He.Fa := [.free "enumerate", .free "range", .free "zip", .free "max", .free "sorted", .str "LETTERS" "abcdefghijklmnopqrstuvwxyz", .str "SIGNS" "abcdefghijklmnopqrstuvwxyz0123456789", .int "LONGEST_NAME" 8]
def faL : List He.Fa := faL0 ++ faL1 ++ faL2 ++ faL3
def exF0 (K : PySem.W.Frag) : Bool := He.eqO (PySem.W.findIn K (.ref (He.ga K "Village")) "__ne__") (some (some (.builtin "object.__ne__")))
def exF1 (K : PySem.W.Frag) : Bool := clsOk K (He.ga K "Village")
def exF2 (K : PySem.W.Frag) : Bool := [Kn.non, .bl, .int, .str, .lst, .tup, .dct, .fn].all fun k => decide (PySem.W.subIn K (.type k.nm) (.ref (He.ga K "Village")) = some false)
def exF3 (K : PySem.W.Frag) : Bool := [Kn.non, .bl, .int, .str, .lst, .tup, .dct, .fn].all fun k => decide (PySem.W.kitOne K (.type k.nm) (.ref (He.ga K "Village")) = some false)
def exF4 (K : PySem.W.Frag) : Bool := He.eqO (PySem.W.findIn K (.ref (He.ga K "Village")) "__class__") (some (some (.builtin "object.__class__")))
def exF5 (K : PySem.W.Frag) : Bool := He.eqO (PySem.W.specialIn K (.builtin "object.__class__") "__get__") (some (some (.builtin "getset_descriptor.__get__")))
def exF6 (K : PySem.W.Frag) : Bool := decide (PySem.W.takesIn K (.builtin "object.__class__") = some true)
def exF7 (K : PySem.W.Frag) : Bool := decide (PySem.W.mroIn K (He.ga K "Village") (.type "object") = some true)
def exF8 (K : PySem.W.Frag) : Bool := oxB K (He.ga K "BadPeople")
def exF9 (K : PySem.W.Frag) : Bool := He.eqO (PySem.W.findIn K (.ref (He.ga K "BadPeople")) "__setattr__") (some (some (.builtin "object.__setattr__")))
def exF10 (K : PySem.W.Frag) : Bool := xfB K (He.ga K "BadPeople")
def exF11 (K : PySem.W.Frag) : Bool := PySem.W.keepIn K (.ref (He.ga K "BadPeople")) && (decide (PySem.W.subIn K (.ref (He.ga K "BadPeople")) (.type "BaseException") = some true) && decide (PySem.W.typeIn K (.ref (He.ga K "BadPeople")) = some (.type "type")))
def exF12 (K : PySem.W.Frag) : Bool := oxB K (He.ga K "BadTies")
def exF13 (K : PySem.W.Frag) : Bool := He.eqO (PySem.W.findIn K (.ref (He.ga K "BadTies")) "__setattr__") (some (some (.builtin "object.__setattr__")))
def exF14 (K : PySem.W.Frag) : Bool := xfB K (He.ga K "BadTies")
def exF15 (K : PySem.W.Frag) : Bool := PySem.W.keepIn K (.ref (He.ga K "BadTies")) && (decide (PySem.W.subIn K (.ref (He.ga K "BadTies")) (.type "BaseException") = some true) && decide (PySem.W.typeIn K (.ref (He.ga K "BadTies")) = some (.type "type")))
def exF16 (K : PySem.W.Frag) : Bool := oxB K (He.ga K "BadNews")
def exF17 (K : PySem.W.Frag) : Bool := He.eqO (PySem.W.findIn K (.ref (He.ga K "BadNews")) "__setattr__") (some (some (.builtin "object.__setattr__")))
def exF18 (K : PySem.W.Frag) : Bool := xfB K (He.ga K "BadNews")
def exF19 (K : PySem.W.Frag) : Bool := PySem.W.keepIn K (.ref (He.ga K "BadNews")) && (decide (PySem.W.subIn K (.ref (He.ga K "BadNews")) (.type "BaseException") = some true) && decide (PySem.W.typeIn K (.ref (He.ga K "BadNews")) = some (.type "type")))
def exF20 (K : PySem.W.Frag) : Bool := oxB K (He.ga K "NoPerson")
def exF21 (K : PySem.W.Frag) : Bool := He.eqO (PySem.W.findIn K (.ref (He.ga K "NoPerson")) "__setattr__") (some (some (.builtin "object.__setattr__")))
def exF22 (K : PySem.W.Frag) : Bool := xfB K (He.ga K "NoPerson")
def exF23 (K : PySem.W.Frag) : Bool := PySem.W.keepIn K (.ref (He.ga K "NoPerson")) && (decide (PySem.W.subIn K (.ref (He.ga K "NoPerson")) (.type "BaseException") = some true) && decide (PySem.W.typeIn K (.ref (He.ga K "NoPerson")) = some (.type "type")))
def exF24 (K : PySem.W.Frag) : Bool := PySem.W.isFn K (.ref (He.ga K "_law_met"))
def exF25 (K : PySem.W.Frag) : Bool := decide ((He.cT K ("_law_refused_right", none)).2 ≠ (He.cT K ("_law_news_right", none)).2 ∧ (He.cT K ("_law_refused_right", none)).2 ≠ (He.cT K ("_law_rings_right", none)).2 ∧ (He.cT K ("_law_news_right", none)).2 ≠ (He.cT K ("_law_rings_right", none)).2)
def exL : List (PySem.W.Frag → Bool) := [exF0, exF1, exF2, exF3, exF4, exF5, exF6, exF7, exF8, exF9, exF10, exF11, exF12, exF13, exF14, exF15, exF16, exF17, exF18, exF19, exF20, exF21, exF22, exF23, exF24, exF25]
def exB (K : PySem.W.Frag) : Bool := exL.all fun f => f K
def tfL : List He.Defn := [("_law_refused_right", none), ("_law_news_right", none), ("_law_rings_right", none)]
abbrev RR : PySem.W.OpenRow := PySem.W.OpenLaw.row PySem.Challenge.rw_heardsince_k01_whole_villages
def nmL0 : List PySem.Str := ["_wall", "LETTERS", "SIGNS", "LONGEST_NAME", "is_list", "is_integer", "is_name", "is_one_of", "is_pair_of", "HeardError", "BadPeople", "BadTies", "BadNews", "NoPerson", "Village", "check_person", "check_people", "first_bad_name", "check_ties", "first_bad_tie", "join_parts", "check_news", "first_bad_amount", "friends_by_ties", "inward_from", "toward_from", "_law_spring", "_law_draw", "_law_pick", "_law_mixed"]
def nmL1 : List PySem.Str := ["_law_same", "_law_loose", "_law_v_names", "_law_v_ties", "_law_v_drawn", "_law_v_friends", "_law_v_way", "_law_v_made", "_law_met", "_law_told_right", "_law_equal_right", "_law_odd_people", "_law_odd_ties", "_law_refused_right", "_law_news_right", "_law_rings_right"]
def nmL : List PySem.Str := nmL0 ++ nmL1
abbrev hkL : PySem.W.Hook := He.hookX 5 faL fnL [] tfL exB
def obL (s : PySem.W.SharedT) : He.AlX := He.obsX 5 faL fnL [] tfL exB (HandSHeadRun.getT s)
theorem obL_eq (s : PySem.W.SharedT) : obL s = hkL.obs s.abs := He.obsX_eq (HandSHeadRun.getT_eq s)
end HS

set_option maxHeartbeats 0
namespace HS
open PySem PySem.Spec L2
theorem runL (w : World) : HandSHeadRun.RunEq RR (PySem.W.view RR.prog [50]) hkL obL 4000 nmL w := by
  intro os
  kernel_rfl
end HS

set_option maxHeartbeats 0
namespace HS
open PySem PySem.Spec L2
def adsL (K : PySem.W.Frag) : Ads where
  C := He.ga K "Village"
  a_is_list := He.fAd K ("is_list", none)
  d_is_list := fdD K ("is_list", none)
  a_is_integer := He.fAd K ("is_integer", none)
  d_is_integer := fdD K ("is_integer", none)
  a_is_name := He.fAd K ("is_name", none)
  d_is_name := fdD K ("is_name", none)
  a_is_one_of := He.fAd K ("is_one_of", none)
  d_is_one_of := fdD K ("is_one_of", none)
  a_is_pair_of := He.fAd K ("is_pair_of", none)
  d_is_pair_of := fdD K ("is_pair_of", none)
  a_check_person := He.fAd K ("check_person", none)
  d_check_person := fdD K ("check_person", none)
  a_check_people := He.fAd K ("check_people", none)
  d_check_people := fdD K ("check_people", none)
  a_first_bad_name := He.fAd K ("first_bad_name", none)
  d_first_bad_name := fdD K ("first_bad_name", none)
  a_check_ties := He.fAd K ("check_ties", none)
  d_check_ties := fdD K ("check_ties", none)
  a_first_bad_tie := He.fAd K ("first_bad_tie", none)
  d_first_bad_tie := fdD K ("first_bad_tie", none)
  a_join_parts := He.fAd K ("join_parts", none)
  d_join_parts := fdD K ("join_parts", none)
  a_check_news := He.fAd K ("check_news", none)
  d_check_news := fdD K ("check_news", none)
  a_first_bad_amount := He.fAd K ("first_bad_amount", none)
  d_first_bad_amount := fdD K ("first_bad_amount", none)
  a_friends_by_ties := He.fAd K ("friends_by_ties", none)
  d_friends_by_ties := fdD K ("friends_by_ties", none)
  a_inward_from := He.fAd K ("inward_from", none)
  d_inward_from := fdD K ("inward_from", none)
  a_toward_from := He.fAd K ("toward_from", none)
  d_toward_from := fdD K ("toward_from", none)
  a_law_spring := He.fAd K ("_law_spring", none)
  d_law_spring := fdD K ("_law_spring", none)
  a_law_draw := He.fAd K ("_law_draw", none)
  d_law_draw := fdD K ("_law_draw", none)
  a_law_pick := He.fAd K ("_law_pick", none)
  d_law_pick := fdD K ("_law_pick", none)
  a_law_mixed := He.fAd K ("_law_mixed", none)
  d_law_mixed := fdD K ("_law_mixed", none)
  a_law_same := He.fAd K ("_law_same", none)
  d_law_same := fdD K ("_law_same", none)
  a_law_loose := He.fAd K ("_law_loose", none)
  d_law_loose := fdD K ("_law_loose", none)
  a_law_v_names := He.fAd K ("_law_v_names", none)
  d_law_v_names := fdD K ("_law_v_names", none)
  a_law_v_ties := He.fAd K ("_law_v_ties", none)
  d_law_v_ties := fdD K ("_law_v_ties", none)
  a_law_v_drawn := He.fAd K ("_law_v_drawn", none)
  d_law_v_drawn := fdD K ("_law_v_drawn", none)
  a_law_v_friends := He.fAd K ("_law_v_friends", none)
  d_law_v_friends := fdD K ("_law_v_friends", none)
  a_law_v_way := He.fAd K ("_law_v_way", none)
  d_law_v_way := fdD K ("_law_v_way", none)
  a_law_v_made := He.fAd K ("_law_v_made", none)
  d_law_v_made := fdD K ("_law_v_made", none)
  a_law_met := He.fAd K ("_law_met", none)
  d_law_met := fdD K ("_law_met", none)
  a_law_told_right := He.fAd K ("_law_told_right", none)
  d_law_told_right := fdD K ("_law_told_right", none)
  a_law_equal_right := He.fAd K ("_law_equal_right", none)
  d_law_equal_right := fdD K ("_law_equal_right", none)
  a_law_odd_people := He.fAd K ("_law_odd_people", none)
  d_law_odd_people := fdD K ("_law_odd_people", none)
  a_law_odd_ties := He.fAd K ("_law_odd_ties", none)
  d_law_odd_ties := fdD K ("_law_odd_ties", none)
  a_law_refused_right := He.fAd K ("_law_refused_right", none)
  d_law_refused_right := fdD K ("_law_refused_right", none)
  a_law_news_right := He.fAd K ("_law_news_right", none)
  d_law_news_right := fdD K ("_law_news_right", none)
  a_law_rings_right := He.fAd K ("_law_rings_right", none)
  d_law_rings_right := fdD K ("_law_rings_right", none)
  a_law := He.fAd K ("law", none)
  d_law := fdD K ("law", none)
  a_v_init := He.fAd K ("Village", some "__init__")
  d_v_init := fdD K ("Village", some "__init__")
  a_v_eq := He.fAd K ("Village", some "__eq__")
  d_v_eq := fdD K ("Village", some "__eq__")
  a_v_people := He.fAd K ("Village", some "people")
  d_v_people := fdD K ("Village", some "people")
  a_v_ties := He.fAd K ("Village", some "ties")
  d_v_ties := fdD K ("Village", some "ties")
  a_v_news := He.fAd K ("Village", some "news")
  d_v_news := fdD K ("Village", some "news")
  a_v_friends := He.fAd K ("Village", some "friends")
  d_v_friends := fdD K ("Village", some "friends")
  a_v_way := He.fAd K ("Village", some "way")
  d_v_way := fdD K ("Village", some "way")
  a_v_behind := He.fAd K ("Village", some "behind")
  d_v_behind := fdD K ("Village", some "behind")
  c_BadPeople := He.ga K "BadPeople"
  a_x_BadPeople := He.fAd K ("BadPeople", some "__init__")
  d_x_BadPeople := fdD K ("BadPeople", some "__init__")
  c_BadTies := He.ga K "BadTies"
  a_x_BadTies := He.fAd K ("BadTies", some "__init__")
  d_x_BadTies := fdD K ("BadTies", some "__init__")
  c_BadNews := He.ga K "BadNews"
  a_x_BadNews := He.fAd K ("BadNews", some "__init__")
  d_x_BadNews := fdD K ("BadNews", some "__init__")
  c_NoPerson := He.ga K "NoPerson"
  a_x_NoPerson := He.fAd K ("NoPerson", some "__init__")
  d_x_NoPerson := fdD K ("NoPerson", some "__init__")
section
variable {w : World} {h : Heap} {K : PySem.W.Frag} {mg : Str → Option Value}
theorem exAt (c : He.SaysX faL fnL [] tfL exB w h K) (i : Nat) {f : PySem.W.Frag → Bool} (e : exL[i]? = some f) : f K = true := List.all_eq_true.mp c.more f (List.mem_of_getElem? e)
theorem FF_is_list (c : He.SaysX faL fnL [] tfL exB w h K) : Fun K "is_list" "is_list" s_is_list (He.fAd K ("is_list", none)) (fdD K ("is_list", none)) := fun_at (c.t.d.def_ 0 (d := dd_is_list) rfl)
theorem FF_is_integer (c : He.SaysX faL fnL [] tfL exB w h K) : Fun K "is_integer" "is_integer" s_is_integer (He.fAd K ("is_integer", none)) (fdD K ("is_integer", none)) := fun_at (c.t.d.def_ 1 (d := dd_is_integer) rfl)
theorem FF_is_name (c : He.SaysX faL fnL [] tfL exB w h K) : Fun K "is_name" "is_name" s_is_name (He.fAd K ("is_name", none)) (fdD K ("is_name", none)) := fun_at (c.t.d.def_ 2 (d := dd_is_name) rfl)
theorem FF_is_one_of (c : He.SaysX faL fnL [] tfL exB w h K) : Fun K "is_one_of" "is_one_of" s_is_one_of (He.fAd K ("is_one_of", none)) (fdD K ("is_one_of", none)) := fun_at (c.t.d.def_ 3 (d := dd_is_one_of) rfl)
theorem FF_is_pair_of (c : He.SaysX faL fnL [] tfL exB w h K) : Fun K "is_pair_of" "is_pair_of" s_is_pair_of (He.fAd K ("is_pair_of", none)) (fdD K ("is_pair_of", none)) := fun_at (c.t.d.def_ 4 (d := dd_is_pair_of) rfl)
theorem FF_check_person (c : He.SaysX faL fnL [] tfL exB w h K) : Fun K "check_person" "check_person" s_check_person (He.fAd K ("check_person", none)) (fdD K ("check_person", none)) := fun_at (c.t.d.def_ 5 (d := dd_check_person) rfl)
theorem FF_check_people (c : He.SaysX faL fnL [] tfL exB w h K) : Fun K "check_people" "check_people" s_check_people (He.fAd K ("check_people", none)) (fdD K ("check_people", none)) := fun_at (c.t.d.def_ 6 (d := dd_check_people) rfl)
theorem FF_first_bad_name (c : He.SaysX faL fnL [] tfL exB w h K) : Fun K "first_bad_name" "first_bad_name" s_first_bad_name (He.fAd K ("first_bad_name", none)) (fdD K ("first_bad_name", none)) := fun_at (c.t.d.def_ 7 (d := dd_first_bad_name) rfl)
theorem FF_check_ties (c : He.SaysX faL fnL [] tfL exB w h K) : Fun K "check_ties" "check_ties" s_check_ties (He.fAd K ("check_ties", none)) (fdD K ("check_ties", none)) := fun_at (c.t.d.def_ 8 (d := dd_check_ties) rfl)
theorem FF_first_bad_tie (c : He.SaysX faL fnL [] tfL exB w h K) : Fun K "first_bad_tie" "first_bad_tie" s_first_bad_tie (He.fAd K ("first_bad_tie", none)) (fdD K ("first_bad_tie", none)) := fun_at (c.t.d.def_ 9 (d := dd_first_bad_tie) rfl)
theorem FF_join_parts (c : He.SaysX faL fnL [] tfL exB w h K) : Fun K "join_parts" "join_parts" s_join_parts (He.fAd K ("join_parts", none)) (fdD K ("join_parts", none)) := fun_at (c.t.d.def_ 10 (d := dd_join_parts) rfl)
theorem FF_check_news (c : He.SaysX faL fnL [] tfL exB w h K) : Fun K "check_news" "check_news" s_check_news (He.fAd K ("check_news", none)) (fdD K ("check_news", none)) := fun_at (c.t.d.def_ 11 (d := dd_check_news) rfl)
theorem FF_first_bad_amount (c : He.SaysX faL fnL [] tfL exB w h K) : Fun K "first_bad_amount" "first_bad_amount" s_first_bad_amount (He.fAd K ("first_bad_amount", none)) (fdD K ("first_bad_amount", none)) := fun_at (c.t.d.def_ 12 (d := dd_first_bad_amount) rfl)
theorem FF_friends_by_ties (c : He.SaysX faL fnL [] tfL exB w h K) : Fun K "friends_by_ties" "friends_by_ties" s_friends_by_ties (He.fAd K ("friends_by_ties", none)) (fdD K ("friends_by_ties", none)) := fun_at (c.t.d.def_ 13 (d := dd_friends_by_ties) rfl)
theorem FF_inward_from (c : He.SaysX faL fnL [] tfL exB w h K) : Fun K "inward_from" "inward_from" s_inward_from (He.fAd K ("inward_from", none)) (fdD K ("inward_from", none)) := fun_at (c.t.d.def_ 14 (d := dd_inward_from) rfl)
theorem FF_toward_from (c : He.SaysX faL fnL [] tfL exB w h K) : Fun K "toward_from" "toward_from" s_toward_from (He.fAd K ("toward_from", none)) (fdD K ("toward_from", none)) := fun_at (c.t.d.def_ 15 (d := dd_toward_from) rfl)
theorem FF_law_spring (c : He.SaysX faL fnL [] tfL exB w h K) : Fun K "_law_spring" "_law_spring" s_law_spring (He.fAd K ("_law_spring", none)) (fdD K ("_law_spring", none)) := fun_at (c.t.d.def_ 16 (d := dd_law_spring) rfl)
theorem FF_law_draw (c : He.SaysX faL fnL [] tfL exB w h K) : Fun K "_law_draw" "_law_draw" s_law_draw (He.fAd K ("_law_draw", none)) (fdD K ("_law_draw", none)) := fun_at (c.t.d.def_ 17 (d := dd_law_draw) rfl)
theorem FF_law_pick (c : He.SaysX faL fnL [] tfL exB w h K) : Fun K "_law_pick" "_law_pick" s_law_pick (He.fAd K ("_law_pick", none)) (fdD K ("_law_pick", none)) := fun_at (c.t.d.def_ 18 (d := dd_law_pick) rfl)
theorem FF_law_mixed (c : He.SaysX faL fnL [] tfL exB w h K) : Fun K "_law_mixed" "_law_mixed" s_law_mixed (He.fAd K ("_law_mixed", none)) (fdD K ("_law_mixed", none)) := fun_at (c.t.d.def_ 19 (d := dd_law_mixed) rfl)
theorem FF_law_same (c : He.SaysX faL fnL [] tfL exB w h K) : Fun K "_law_same" "_law_same" s_law_same (He.fAd K ("_law_same", none)) (fdD K ("_law_same", none)) := fun_at (c.t.d.def_ 20 (d := dd_law_same) rfl)
theorem FF_law_loose (c : He.SaysX faL fnL [] tfL exB w h K) : Fun K "_law_loose" "_law_loose" s_law_loose (He.fAd K ("_law_loose", none)) (fdD K ("_law_loose", none)) := fun_at (c.t.d.def_ 21 (d := dd_law_loose) rfl)
theorem FF_law_v_names (c : He.SaysX faL fnL [] tfL exB w h K) : Fun K "_law_v_names" "_law_v_names" s_law_v_names (He.fAd K ("_law_v_names", none)) (fdD K ("_law_v_names", none)) := fun_at (c.t.d.def_ 22 (d := dd_law_v_names) rfl)
theorem FF_law_v_ties (c : He.SaysX faL fnL [] tfL exB w h K) : Fun K "_law_v_ties" "_law_v_ties" s_law_v_ties (He.fAd K ("_law_v_ties", none)) (fdD K ("_law_v_ties", none)) := fun_at (c.t.d.def_ 23 (d := dd_law_v_ties) rfl)
theorem FF_law_v_drawn (c : He.SaysX faL fnL [] tfL exB w h K) : Fun K "_law_v_drawn" "_law_v_drawn" s_law_v_drawn (He.fAd K ("_law_v_drawn", none)) (fdD K ("_law_v_drawn", none)) := fun_at (c.t.d.def_ 24 (d := dd_law_v_drawn) rfl)
theorem FF_law_v_friends (c : He.SaysX faL fnL [] tfL exB w h K) : Fun K "_law_v_friends" "_law_v_friends" s_law_v_friends (He.fAd K ("_law_v_friends", none)) (fdD K ("_law_v_friends", none)) := fun_at (c.t.d.def_ 25 (d := dd_law_v_friends) rfl)
theorem FF_law_v_way (c : He.SaysX faL fnL [] tfL exB w h K) : Fun K "_law_v_way" "_law_v_way" s_law_v_way (He.fAd K ("_law_v_way", none)) (fdD K ("_law_v_way", none)) := fun_at (c.t.d.def_ 26 (d := dd_law_v_way) rfl)
theorem FF_law_v_made (c : He.SaysX faL fnL [] tfL exB w h K) : Fun K "_law_v_made" "_law_v_made" s_law_v_made (He.fAd K ("_law_v_made", none)) (fdD K ("_law_v_made", none)) := fun_at (c.t.d.def_ 27 (d := dd_law_v_made) rfl)
theorem FF_law_met (c : He.SaysX faL fnL [] tfL exB w h K) : Fun K "_law_met" "_law_met" s_law_met (He.fAd K ("_law_met", none)) (fdD K ("_law_met", none)) := fun_at (c.t.d.def_ 28 (d := dd_law_met) rfl)
theorem FF_law_told_right (c : He.SaysX faL fnL [] tfL exB w h K) : Fun K "_law_told_right" "_law_told_right" s_law_told_right (He.fAd K ("_law_told_right", none)) (fdD K ("_law_told_right", none)) := fun_at (c.t.d.def_ 29 (d := dd_law_told_right) rfl)
theorem FF_law_equal_right (c : He.SaysX faL fnL [] tfL exB w h K) : Fun K "_law_equal_right" "_law_equal_right" s_law_equal_right (He.fAd K ("_law_equal_right", none)) (fdD K ("_law_equal_right", none)) := fun_at (c.t.d.def_ 30 (d := dd_law_equal_right) rfl)
theorem FF_law_odd_people (c : He.SaysX faL fnL [] tfL exB w h K) : Fun K "_law_odd_people" "_law_odd_people" s_law_odd_people (He.fAd K ("_law_odd_people", none)) (fdD K ("_law_odd_people", none)) := fun_at (c.t.d.def_ 31 (d := dd_law_odd_people) rfl)
theorem FF_law_odd_ties (c : He.SaysX faL fnL [] tfL exB w h K) : Fun K "_law_odd_ties" "_law_odd_ties" s_law_odd_ties (He.fAd K ("_law_odd_ties", none)) (fdD K ("_law_odd_ties", none)) := fun_at (c.t.d.def_ 32 (d := dd_law_odd_ties) rfl)
theorem FF_law_refused_right (c : He.SaysX faL fnL [] tfL exB w h K) : Fun K "_law_refused_right" "_law_refused_right" s_law_refused_right (He.fAd K ("_law_refused_right", none)) (fdD K ("_law_refused_right", none)) := fun_at (c.t.d.def_ 33 (d := dd_law_refused_right) rfl)
theorem FF_law_news_right (c : He.SaysX faL fnL [] tfL exB w h K) : Fun K "_law_news_right" "_law_news_right" s_law_news_right (He.fAd K ("_law_news_right", none)) (fdD K ("_law_news_right", none)) := fun_at (c.t.d.def_ 34 (d := dd_law_news_right) rfl)
theorem FF_law_rings_right (c : He.SaysX faL fnL [] tfL exB w h K) : Fun K "_law_rings_right" "_law_rings_right" s_law_rings_right (He.fAd K ("_law_rings_right", none)) (fdD K ("_law_rings_right", none)) := fun_at (c.t.d.def_ 35 (d := dd_law_rings_right) rfl)
theorem FF_law (c : He.SaysX faL fnL [] tfL exB w h K) : Fun K "law" "law" s_law (He.fAd K ("law", none)) (fdD K ("law", none)) := fun_at (c.t.d.def_ 36 (d := dd_law) rfl)
theorem FF_v_init (c : He.SaysX faL fnL [] tfL exB w h K) : Fun K "__init__" "Village.__init__" s_v_init (He.fAd K ("Village", some "__init__")) (fdD K ("Village", some "__init__")) := fun_at (c.t.d.def_ 37 (d := dd_v_init) rfl)
theorem FF_v_eq (c : He.SaysX faL fnL [] tfL exB w h K) : Fun K "__eq__" "Village.__eq__" s_v_eq (He.fAd K ("Village", some "__eq__")) (fdD K ("Village", some "__eq__")) := fun_at (c.t.d.def_ 38 (d := dd_v_eq) rfl)
theorem FF_v_people (c : He.SaysX faL fnL [] tfL exB w h K) : Fun K "people" "Village.people" s_v_people (He.fAd K ("Village", some "people")) (fdD K ("Village", some "people")) := fun_at (c.t.d.def_ 39 (d := dd_v_people) rfl)
theorem FF_v_ties (c : He.SaysX faL fnL [] tfL exB w h K) : Fun K "ties" "Village.ties" s_v_ties (He.fAd K ("Village", some "ties")) (fdD K ("Village", some "ties")) := fun_at (c.t.d.def_ 40 (d := dd_v_ties) rfl)
theorem FF_v_news (c : He.SaysX faL fnL [] tfL exB w h K) : Fun K "news" "Village.news" s_v_news (He.fAd K ("Village", some "news")) (fdD K ("Village", some "news")) := fun_at (c.t.d.def_ 41 (d := dd_v_news) rfl)
theorem FF_v_friends (c : He.SaysX faL fnL [] tfL exB w h K) : Fun K "friends" "Village.friends" s_v_friends (He.fAd K ("Village", some "friends")) (fdD K ("Village", some "friends")) := fun_at (c.t.d.def_ 42 (d := dd_v_friends) rfl)
theorem FF_v_way (c : He.SaysX faL fnL [] tfL exB w h K) : Fun K "way" "Village.way" s_v_way (He.fAd K ("Village", some "way")) (fdD K ("Village", some "way")) := fun_at (c.t.d.def_ 43 (d := dd_v_way) rfl)
theorem FF_v_behind (c : He.SaysX faL fnL [] tfL exB w h K) : Fun K "behind" "Village.behind" s_v_behind (He.fAd K ("Village", some "behind")) (fdD K ("Village", some "behind")) := fun_at (c.t.d.def_ 44 (d := dd_v_behind) rfl)
theorem FF_x_BadPeople (c : He.SaysX faL fnL [] tfL exB w h K) : Fun K "__init__" "BadPeople.__init__" s_x_BadPeople (He.fAd K ("BadPeople", some "__init__")) (fdD K ("BadPeople", some "__init__")) := fun_at (c.t.d.def_ 45 (d := dd_x_BadPeople) rfl)
theorem FF_x_BadTies (c : He.SaysX faL fnL [] tfL exB w h K) : Fun K "__init__" "BadTies.__init__" s_x_BadTies (He.fAd K ("BadTies", some "__init__")) (fdD K ("BadTies", some "__init__")) := fun_at (c.t.d.def_ 46 (d := dd_x_BadTies) rfl)
theorem FF_x_BadNews (c : He.SaysX faL fnL [] tfL exB w h K) : Fun K "__init__" "BadNews.__init__" s_x_BadNews (He.fAd K ("BadNews", some "__init__")) (fdD K ("BadNews", some "__init__")) := fun_at (c.t.d.def_ 47 (d := dd_x_BadNews) rfl)
theorem FF_x_NoPerson (c : He.SaysX faL fnL [] tfL exB w h K) : Fun K "__init__" "NoPerson.__init__" s_x_NoPerson (He.fAd K ("NoPerson", some "__init__")) (fdD K ("NoPerson", some "__init__")) := fun_at (c.t.d.def_ 48 (d := dd_x_NoPerson) rfl)
theorem BB_is_list (c : He.SaysX faL fnL [] tfL exB w h K) : Binds K (fdD K ("is_list", none)) ["thing"] [] := (FF_is_list c).binds (ps := ["thing"]) fun _ _ _ _ _ _ us hl => match us, hl with | [_], _ => rfl
theorem BB_is_integer (c : He.SaysX faL fnL [] tfL exB w h K) : Binds K (fdD K ("is_integer", none)) ["thing"] [] := (FF_is_integer c).binds (ps := ["thing"]) fun _ _ _ _ _ _ us hl => match us, hl with | [_], _ => rfl
theorem BB_is_name (c : He.SaysX faL fnL [] tfL exB w h K) : Binds K (fdD K ("is_name", none)) ["thing"] [] := (FF_is_name c).binds (ps := ["thing"]) fun _ _ _ _ _ _ us hl => match us, hl with | [_], _ => rfl
theorem BB_is_one_of (c : He.SaysX faL fnL [] tfL exB w h K) : Binds K (fdD K ("is_one_of", none)) ["known", "thing"] [] := (FF_is_one_of c).binds (ps := ["known", "thing"]) fun _ _ _ _ _ _ us hl => match us, hl with | [_, _], _ => rfl
theorem BB_is_pair_of (c : He.SaysX faL fnL [] tfL exB w h K) : Binds K (fdD K ("is_pair_of", none)) ["known", "thing"] [] := (FF_is_pair_of c).binds (ps := ["known", "thing"]) fun _ _ _ _ _ _ us hl => match us, hl with | [_, _], _ => rfl
theorem BB_check_person (c : He.SaysX faL fnL [] tfL exB w h K) : Binds K (fdD K ("check_person", none)) ["village", "person"] [] := (FF_check_person c).binds (ps := ["village", "person"]) fun _ _ _ _ _ _ us hl => match us, hl with | [_, _], _ => rfl
theorem BB_check_people (c : He.SaysX faL fnL [] tfL exB w h K) : Binds K (fdD K ("check_people", none)) ["people"] [] := (FF_check_people c).binds (ps := ["people"]) fun _ _ _ _ _ _ us hl => match us, hl with | [_], _ => rfl
theorem BB_first_bad_name (c : He.SaysX faL fnL [] tfL exB w h K) : Binds K (fdD K ("first_bad_name", none)) ["people"] [] := (FF_first_bad_name c).binds (ps := ["people"]) fun _ _ _ _ _ _ us hl => match us, hl with | [_], _ => rfl
theorem BB_check_ties (c : He.SaysX faL fnL [] tfL exB w h K) : Binds K (fdD K ("check_ties", none)) ["people", "ties"] [] := (FF_check_ties c).binds (ps := ["people", "ties"]) fun _ _ _ _ _ _ us hl => match us, hl with | [_, _], _ => rfl
theorem BB_first_bad_tie (c : He.SaysX faL fnL [] tfL exB w h K) : Binds K (fdD K ("first_bad_tie", none)) ["people", "ties"] [] := (FF_first_bad_tie c).binds (ps := ["people", "ties"]) fun _ _ _ _ _ _ us hl => match us, hl with | [_, _], _ => rfl
theorem BB_join_parts (c : He.SaysX faL fnL [] tfL exB w h K) : Binds K (fdD K ("join_parts", none)) ["parts", "one", "other"] [] := (FF_join_parts c).binds (ps := ["parts", "one", "other"]) fun _ _ _ _ _ _ us hl => match us, hl with | [_, _, _], _ => rfl
theorem BB_check_news (c : He.SaysX faL fnL [] tfL exB w h K) : Binds K (fdD K ("check_news", none)) ["people", "news"] [] := (FF_check_news c).binds (ps := ["people", "news"]) fun _ _ _ _ _ _ us hl => match us, hl with | [_, _], _ => rfl
theorem BB_first_bad_amount (c : He.SaysX faL fnL [] tfL exB w h K) : Binds K (fdD K ("first_bad_amount", none)) ["many", "amounts", "least"] [] := (FF_first_bad_amount c).binds (ps := ["many", "amounts", "least"]) fun _ _ _ _ _ _ us hl => match us, hl with | [_, _, _], _ => rfl
theorem BB_friends_by_ties (c : He.SaysX faL fnL [] tfL exB w h K) : Binds K (fdD K ("friends_by_ties", none)) ["people", "ties"] [] := (FF_friends_by_ties c).binds (ps := ["people", "ties"]) fun _ _ _ _ _ _ us hl => match us, hl with | [_, _], _ => rfl
theorem BB_inward_from (c : He.SaysX faL fnL [] tfL exB w h K) : Binds K (fdD K ("inward_from", none)) ["village", "middle"] [] := (FF_inward_from c).binds (ps := ["village", "middle"]) fun _ _ _ _ _ _ us hl => match us, hl with | [_, _], _ => rfl
theorem BB_toward_from (c : He.SaysX faL fnL [] tfL exB w h K) : Binds K (fdD K ("toward_from", none)) ["beside", "middle"] [] := (FF_toward_from c).binds (ps := ["beside", "middle"]) fun _ _ _ _ _ _ us hl => match us, hl with | [_, _], _ => rfl
theorem BB_law_spring (c : He.SaysX faL fnL [] tfL exB w h K) : Binds K (fdD K ("_law_spring", none)) ["script", "turn"] [] := (FF_law_spring c).binds (ps := ["script", "turn"]) fun _ _ _ _ _ _ us hl => match us, hl with | [_, _], _ => rfl
theorem BB_law_draw (c : He.SaysX faL fnL [] tfL exB w h K) : Binds K (fdD K ("_law_draw", none)) ["spring", "many"] [] := (FF_law_draw c).binds (ps := ["spring", "many"]) fun _ _ _ _ _ _ us hl => match us, hl with | [_, _], _ => rfl
theorem BB_law_pick (c : He.SaysX faL fnL [] tfL exB w h K) : Binds K (fdD K ("_law_pick", none)) ["spring", "some"] [] := (FF_law_pick c).binds (ps := ["spring", "some"]) fun _ _ _ _ _ _ us hl => match us, hl with | [_, _], _ => rfl
theorem BB_law_mixed (c : He.SaysX faL fnL [] tfL exB w h K) : Binds K (fdD K ("_law_mixed", none)) ["spring", "some"] [] := (FF_law_mixed c).binds (ps := ["spring", "some"]) fun _ _ _ _ _ _ us hl => match us, hl with | [_, _], _ => rfl
theorem BB_law_same (c : He.SaysX faL fnL [] tfL exB w h K) : Binds K (fdD K ("_law_same", none)) ["found", "due"] [] := (FF_law_same c).binds (ps := ["found", "due"]) fun _ _ _ _ _ _ us hl => match us, hl with | [_, _], _ => rfl
theorem BB_law_loose (c : He.SaysX faL fnL [] tfL exB w h K) : Binds K (fdD K ("_law_loose", none)) ["spring", "thing"] [] := (FF_law_loose c).binds (ps := ["spring", "thing"]) fun _ _ _ _ _ _ us hl => match us, hl with | [_, _], _ => rfl
theorem BB_law_v_names (c : He.SaysX faL fnL [] tfL exB w h K) : Binds K (fdD K ("_law_v_names", none)) ["spring", "many"] [] := (FF_law_v_names c).binds (ps := ["spring", "many"]) fun _ _ _ _ _ _ us hl => match us, hl with | [_, _], _ => rfl
theorem BB_law_v_ties (c : He.SaysX faL fnL [] tfL exB w h K) : Binds K (fdD K ("_law_v_ties", none)) ["spring", "names"] [] := (FF_law_v_ties c).binds (ps := ["spring", "names"]) fun _ _ _ _ _ _ us hl => match us, hl with | [_, _], _ => rfl
theorem BB_law_v_drawn (c : He.SaysX faL fnL [] tfL exB w h K) : Binds K (fdD K ("_law_v_drawn", none)) ["spring", "most"] [] := (FF_law_v_drawn c).binds (ps := ["spring", "most"]) fun _ _ _ _ _ _ us hl => match us, hl with | [_, _], _ => rfl
theorem BB_law_v_friends (c : He.SaysX faL fnL [] tfL exB w h K) : Binds K (fdD K ("_law_v_friends", none)) ["form", "person"] [] := (FF_law_v_friends c).binds (ps := ["form", "person"]) fun _ _ _ _ _ _ us hl => match us, hl with | [_, _], _ => rfl
theorem BB_law_v_way (c : He.SaysX faL fnL [] tfL exB w h K) : Binds K (fdD K ("_law_v_way", none)) ["form", "one", "other"] [] := (FF_law_v_way c).binds (ps := ["form", "one", "other"]) fun _ _ _ _ _ _ us hl => match us, hl with | [_, _, _], _ => rfl
theorem BB_law_v_made (c : He.SaysX faL fnL [] tfL exB w h K) : Binds K (fdD K ("_law_v_made", none)) ["spring", "form"] [] := (FF_law_v_made c).binds (ps := ["spring", "form"]) fun _ _ _ _ _ _ us hl => match us, hl with | [_, _], _ => rfl
theorem BB_law_met (c : He.SaysX faL fnL [] tfL exB w h K) : Binds K (fdD K ("_law_met", none)) ["ask"] [] := (FF_law_met c).binds (ps := ["ask"]) fun _ _ _ _ _ _ us hl => match us, hl with | [_], _ => rfl
theorem BB_law_told_right (c : He.SaysX faL fnL [] tfL exB w h K) : Binds K (fdD K ("_law_told_right", none)) ["spring", "form"] [] := (FF_law_told_right c).binds (ps := ["spring", "form"]) fun _ _ _ _ _ _ us hl => match us, hl with | [_, _], _ => rfl
theorem BB_law_equal_right (c : He.SaysX faL fnL [] tfL exB w h K) : Binds K (fdD K ("_law_equal_right", none)) ["spring", "form"] [] := (FF_law_equal_right c).binds (ps := ["spring", "form"]) fun _ _ _ _ _ _ us hl => match us, hl with | [_, _], _ => rfl
theorem BB_law_odd_people (c : He.SaysX faL fnL [] tfL exB w h K) : Binds K (fdD K ("_law_odd_people", none)) ["names"] [] := (FF_law_odd_people c).binds (ps := ["names"]) fun _ _ _ _ _ _ us hl => match us, hl with | [_], _ => rfl
theorem BB_law_odd_ties (c : He.SaysX faL fnL [] tfL exB w h K) : Binds K (fdD K ("_law_odd_ties", none)) ["names"] [] := (FF_law_odd_ties c).binds (ps := ["names"]) fun _ _ _ _ _ _ us hl => match us, hl with | [_], _ => rfl
theorem BB_law_refused_right (c : He.SaysX faL fnL [] tfL exB w h K) : Binds K (fdD K ("_law_refused_right", none)) ["spring", "form"] [] := (FF_law_refused_right c).binds (ps := ["spring", "form"]) fun _ _ _ _ _ _ us hl => match us, hl with | [_, _], _ => rfl
theorem BB_law_news_right (c : He.SaysX faL fnL [] tfL exB w h K) : Binds K (fdD K ("_law_news_right", none)) ["spring", "form"] [] := (FF_law_news_right c).binds (ps := ["spring", "form"]) fun _ _ _ _ _ _ us hl => match us, hl with | [_, _], _ => rfl
theorem BB_law_rings_right (c : He.SaysX faL fnL [] tfL exB w h K) : Binds K (fdD K ("_law_rings_right", none)) ["spring", "form"] [] := (FF_law_rings_right c).binds (ps := ["spring", "form"]) fun _ _ _ _ _ _ us hl => match us, hl with | [_, _], _ => rfl
theorem BB_law (c : He.SaysX faL fnL [] tfL exB w h K) : Binds K (fdD K ("law", none)) ["script"] [] := (FF_law c).binds (ps := ["script"]) fun _ _ _ _ _ _ us hl => match us, hl with | [_], _ => rfl
theorem BB_v_init (c : He.SaysX faL fnL [] tfL exB w h K) : Binds K (fdD K ("Village", some "__init__")) ["self", "people", "ties", "news"] [] := (FF_v_init c).binds (ps := ["self", "people", "ties", "news"]) fun _ _ _ _ _ _ us hl => match us, hl with | [_, _, _, _], _ => rfl
theorem BB_v_eq (c : He.SaysX faL fnL [] tfL exB w h K) : Binds K (fdD K ("Village", some "__eq__")) ["self", "other"] [] := (FF_v_eq c).binds (ps := ["self", "other"]) fun _ _ _ _ _ _ us hl => match us, hl with | [_, _], _ => rfl
theorem BB_v_people (c : He.SaysX faL fnL [] tfL exB w h K) : Binds K (fdD K ("Village", some "people")) ["self"] [] := (FF_v_people c).binds (ps := ["self"]) fun _ _ _ _ _ _ us hl => match us, hl with | [_], _ => rfl
theorem BB_v_ties (c : He.SaysX faL fnL [] tfL exB w h K) : Binds K (fdD K ("Village", some "ties")) ["self"] [] := (FF_v_ties c).binds (ps := ["self"]) fun _ _ _ _ _ _ us hl => match us, hl with | [_], _ => rfl
theorem BB_v_news (c : He.SaysX faL fnL [] tfL exB w h K) : Binds K (fdD K ("Village", some "news")) ["self"] [] := (FF_v_news c).binds (ps := ["self"]) fun _ _ _ _ _ _ us hl => match us, hl with | [_], _ => rfl
theorem BB_v_friends (c : He.SaysX faL fnL [] tfL exB w h K) : Binds K (fdD K ("Village", some "friends")) ["self", "person"] [] := (FF_v_friends c).binds (ps := ["self", "person"]) fun _ _ _ _ _ _ us hl => match us, hl with | [_, _], _ => rfl
theorem BB_v_way (c : He.SaysX faL fnL [] tfL exB w h K) : Binds K (fdD K ("Village", some "way")) ["self", "one", "other"] [] := (FF_v_way c).binds (ps := ["self", "one", "other"]) fun _ _ _ _ _ _ us hl => match us, hl with | [_, _, _], _ => rfl
theorem BB_v_behind (c : He.SaysX faL fnL [] tfL exB w h K) : Binds K (fdD K ("Village", some "behind")) ["self", "one", "other"] [] := (FF_v_behind c).binds (ps := ["self", "one", "other"]) fun _ _ _ _ _ _ us hl => match us, hl with | [_, _, _], _ => rfl
theorem BB_x_BadPeople (c : He.SaysX faL fnL [] tfL exB w h K) : Binds K (fdD K ("BadPeople", some "__init__")) ["self", "index"] [] := (FF_x_BadPeople c).binds (ps := ["self", "index"]) fun _ _ _ _ _ _ us hl => match us, hl with | [_, _], _ => rfl
theorem BB_x_BadTies (c : He.SaysX faL fnL [] tfL exB w h K) : Binds K (fdD K ("BadTies", some "__init__")) ["self", "index"] [] := (FF_x_BadTies c).binds (ps := ["self", "index"]) fun _ _ _ _ _ _ us hl => match us, hl with | [_, _], _ => rfl
theorem BB_x_BadNews (c : He.SaysX faL fnL [] tfL exB w h K) : Binds K (fdD K ("BadNews", some "__init__")) ["self", "index"] [] := (FF_x_BadNews c).binds (ps := ["self", "index"]) fun _ _ _ _ _ _ us hl => match us, hl with | [_, _], _ => rfl
theorem BB_x_NoPerson (c : He.SaysX faL fnL [] tfL exB w h K) : Binds K (fdD K ("NoPerson", some "__init__")) ["self", "person"] [] := (FF_x_NoPerson c).binds (ps := ["self", "person"]) fun _ _ _ _ _ _ us hl => match us, hl with | [_, _], _ => rfl
theorem XX_BadPeople (X : K.In h) (G : h.Ns mainGlobals mg) (c : He.SaysX faL fnL [] tfL exB w h K) : XTxt K mg "BadPeople" "BadPeople.__init__" "index" s_x_BadPeople (He.ga K "BadPeople") (He.fAd K ("BadPeople", some "__init__")) (fdD K ("BadPeople", some "__init__")) where
  gC := He.glo_ok X G (c.t.d.fact 52 (f := .glo "BadPeople") rfl)
  ox := ox_of (exAt c 8 (f := exF8) rfl) (exAt c 9 (f := exF9) rfl) (exAt c 11 (f := exF11) rfl)
  xf := xfB_ok (exAt c 10 (f := exF10) rfl)
  noN := He.noat_ok (c.t.d.fact 53 (f := .noat "BadPeople" "index") rfl)
  iC := (He.meth_ok (c.t.d.fact 54 (f := .meth "BadPeople" "__init__") rfl)).at_
  tI := beq_iff_eq.mp (He.meth_ok (c.t.d.fact 54 (f := .meth "BadPeople" "__init__") rfl)).fn
  te := He.exm_ok (c.t.d.fact 55 (f := .exm "BadPeople" "BadPeople" true) rfl)
  F := FF_x_BadPeople c
  b := BB_x_BadPeople c
theorem XX_BadTies (X : K.In h) (G : h.Ns mainGlobals mg) (c : He.SaysX faL fnL [] tfL exB w h K) : XTxt K mg "BadTies" "BadTies.__init__" "index" s_x_BadTies (He.ga K "BadTies") (He.fAd K ("BadTies", some "__init__")) (fdD K ("BadTies", some "__init__")) where
  gC := He.glo_ok X G (c.t.d.fact 56 (f := .glo "BadTies") rfl)
  ox := ox_of (exAt c 12 (f := exF12) rfl) (exAt c 13 (f := exF13) rfl) (exAt c 15 (f := exF15) rfl)
  xf := xfB_ok (exAt c 14 (f := exF14) rfl)
  noN := He.noat_ok (c.t.d.fact 57 (f := .noat "BadTies" "index") rfl)
  iC := (He.meth_ok (c.t.d.fact 58 (f := .meth "BadTies" "__init__") rfl)).at_
  tI := beq_iff_eq.mp (He.meth_ok (c.t.d.fact 58 (f := .meth "BadTies" "__init__") rfl)).fn
  te := He.exm_ok (c.t.d.fact 59 (f := .exm "BadTies" "BadTies" true) rfl)
  F := FF_x_BadTies c
  b := BB_x_BadTies c
theorem XX_BadNews (X : K.In h) (G : h.Ns mainGlobals mg) (c : He.SaysX faL fnL [] tfL exB w h K) : XTxt K mg "BadNews" "BadNews.__init__" "index" s_x_BadNews (He.ga K "BadNews") (He.fAd K ("BadNews", some "__init__")) (fdD K ("BadNews", some "__init__")) where
  gC := He.glo_ok X G (c.t.d.fact 60 (f := .glo "BadNews") rfl)
  ox := ox_of (exAt c 16 (f := exF16) rfl) (exAt c 17 (f := exF17) rfl) (exAt c 19 (f := exF19) rfl)
  xf := xfB_ok (exAt c 18 (f := exF18) rfl)
  noN := He.noat_ok (c.t.d.fact 61 (f := .noat "BadNews" "index") rfl)
  iC := (He.meth_ok (c.t.d.fact 62 (f := .meth "BadNews" "__init__") rfl)).at_
  tI := beq_iff_eq.mp (He.meth_ok (c.t.d.fact 62 (f := .meth "BadNews" "__init__") rfl)).fn
  te := He.exm_ok (c.t.d.fact 63 (f := .exm "BadNews" "BadNews" true) rfl)
  F := FF_x_BadNews c
  b := BB_x_BadNews c
theorem XX_NoPerson (X : K.In h) (G : h.Ns mainGlobals mg) (c : He.SaysX faL fnL [] tfL exB w h K) : XTxt K mg "NoPerson" "NoPerson.__init__" "person" s_x_NoPerson (He.ga K "NoPerson") (He.fAd K ("NoPerson", some "__init__")) (fdD K ("NoPerson", some "__init__")) where
  gC := He.glo_ok X G (c.t.d.fact 64 (f := .glo "NoPerson") rfl)
  ox := ox_of (exAt c 20 (f := exF20) rfl) (exAt c 21 (f := exF21) rfl) (exAt c 23 (f := exF23) rfl)
  xf := xfB_ok (exAt c 22 (f := exF22) rfl)
  noN := He.noat_ok (c.t.d.fact 65 (f := .noat "NoPerson" "person") rfl)
  iC := (He.meth_ok (c.t.d.fact 66 (f := .meth "NoPerson" "__init__") rfl)).at_
  tI := beq_iff_eq.mp (He.meth_ok (c.t.d.fact 66 (f := .meth "NoPerson" "__init__") rfl)).fn
  te := He.exm_ok (c.t.d.fact 67 (f := .exm "NoPerson" "NoPerson" true) rfl)
  F := FF_x_NoPerson c
  b := BB_x_NoPerson c
theorem txtL (X : K.In h) (G : h.Ns mainGlobals mg) (c : He.SaysX faL fnL [] tfL exB w h K) : Txt K mg (adsL K) where
  F_is_list := FF_is_list c
  g_is_list := He.glo_ok X G (c.t.d.fact 0 (f := .glo "is_list") rfl)
  b_is_list := BB_is_list c
  F_is_integer := FF_is_integer c
  g_is_integer := He.glo_ok X G (c.t.d.fact 1 (f := .glo "is_integer") rfl)
  b_is_integer := BB_is_integer c
  F_is_name := FF_is_name c
  g_is_name := He.glo_ok X G (c.t.d.fact 2 (f := .glo "is_name") rfl)
  b_is_name := BB_is_name c
  F_is_one_of := FF_is_one_of c
  g_is_one_of := He.glo_ok X G (c.t.d.fact 3 (f := .glo "is_one_of") rfl)
  b_is_one_of := BB_is_one_of c
  F_is_pair_of := FF_is_pair_of c
  g_is_pair_of := He.glo_ok X G (c.t.d.fact 4 (f := .glo "is_pair_of") rfl)
  b_is_pair_of := BB_is_pair_of c
  F_check_person := FF_check_person c
  g_check_person := He.glo_ok X G (c.t.d.fact 5 (f := .glo "check_person") rfl)
  b_check_person := BB_check_person c
  F_check_people := FF_check_people c
  g_check_people := He.glo_ok X G (c.t.d.fact 6 (f := .glo "check_people") rfl)
  b_check_people := BB_check_people c
  F_first_bad_name := FF_first_bad_name c
  g_first_bad_name := He.glo_ok X G (c.t.d.fact 7 (f := .glo "first_bad_name") rfl)
  b_first_bad_name := BB_first_bad_name c
  F_check_ties := FF_check_ties c
  g_check_ties := He.glo_ok X G (c.t.d.fact 8 (f := .glo "check_ties") rfl)
  b_check_ties := BB_check_ties c
  F_first_bad_tie := FF_first_bad_tie c
  g_first_bad_tie := He.glo_ok X G (c.t.d.fact 9 (f := .glo "first_bad_tie") rfl)
  b_first_bad_tie := BB_first_bad_tie c
  F_join_parts := FF_join_parts c
  g_join_parts := He.glo_ok X G (c.t.d.fact 10 (f := .glo "join_parts") rfl)
  b_join_parts := BB_join_parts c
  F_check_news := FF_check_news c
  g_check_news := He.glo_ok X G (c.t.d.fact 11 (f := .glo "check_news") rfl)
  b_check_news := BB_check_news c
  F_first_bad_amount := FF_first_bad_amount c
  g_first_bad_amount := He.glo_ok X G (c.t.d.fact 12 (f := .glo "first_bad_amount") rfl)
  b_first_bad_amount := BB_first_bad_amount c
  F_friends_by_ties := FF_friends_by_ties c
  g_friends_by_ties := He.glo_ok X G (c.t.d.fact 13 (f := .glo "friends_by_ties") rfl)
  b_friends_by_ties := BB_friends_by_ties c
  F_inward_from := FF_inward_from c
  g_inward_from := He.glo_ok X G (c.t.d.fact 14 (f := .glo "inward_from") rfl)
  b_inward_from := BB_inward_from c
  F_toward_from := FF_toward_from c
  g_toward_from := He.glo_ok X G (c.t.d.fact 15 (f := .glo "toward_from") rfl)
  b_toward_from := BB_toward_from c
  F_law_spring := FF_law_spring c
  g_law_spring := He.glo_ok X G (c.t.d.fact 16 (f := .glo "_law_spring") rfl)
  b_law_spring := BB_law_spring c
  F_law_draw := FF_law_draw c
  g_law_draw := He.glo_ok X G (c.t.d.fact 17 (f := .glo "_law_draw") rfl)
  b_law_draw := BB_law_draw c
  F_law_pick := FF_law_pick c
  g_law_pick := He.glo_ok X G (c.t.d.fact 18 (f := .glo "_law_pick") rfl)
  b_law_pick := BB_law_pick c
  F_law_mixed := FF_law_mixed c
  g_law_mixed := He.glo_ok X G (c.t.d.fact 19 (f := .glo "_law_mixed") rfl)
  b_law_mixed := BB_law_mixed c
  F_law_same := FF_law_same c
  g_law_same := He.glo_ok X G (c.t.d.fact 20 (f := .glo "_law_same") rfl)
  b_law_same := BB_law_same c
  F_law_loose := FF_law_loose c
  g_law_loose := He.glo_ok X G (c.t.d.fact 21 (f := .glo "_law_loose") rfl)
  b_law_loose := BB_law_loose c
  F_law_v_names := FF_law_v_names c
  g_law_v_names := He.glo_ok X G (c.t.d.fact 22 (f := .glo "_law_v_names") rfl)
  b_law_v_names := BB_law_v_names c
  F_law_v_ties := FF_law_v_ties c
  g_law_v_ties := He.glo_ok X G (c.t.d.fact 23 (f := .glo "_law_v_ties") rfl)
  b_law_v_ties := BB_law_v_ties c
  F_law_v_drawn := FF_law_v_drawn c
  g_law_v_drawn := He.glo_ok X G (c.t.d.fact 24 (f := .glo "_law_v_drawn") rfl)
  b_law_v_drawn := BB_law_v_drawn c
  F_law_v_friends := FF_law_v_friends c
  g_law_v_friends := He.glo_ok X G (c.t.d.fact 25 (f := .glo "_law_v_friends") rfl)
  b_law_v_friends := BB_law_v_friends c
  F_law_v_way := FF_law_v_way c
  g_law_v_way := He.glo_ok X G (c.t.d.fact 26 (f := .glo "_law_v_way") rfl)
  b_law_v_way := BB_law_v_way c
  F_law_v_made := FF_law_v_made c
  g_law_v_made := He.glo_ok X G (c.t.d.fact 27 (f := .glo "_law_v_made") rfl)
  b_law_v_made := BB_law_v_made c
  F_law_met := FF_law_met c
  g_law_met := He.glo_ok X G (c.t.d.fact 28 (f := .glo "_law_met") rfl)
  b_law_met := BB_law_met c
  F_law_told_right := FF_law_told_right c
  g_law_told_right := He.glo_ok X G (c.t.d.fact 29 (f := .glo "_law_told_right") rfl)
  b_law_told_right := BB_law_told_right c
  F_law_equal_right := FF_law_equal_right c
  g_law_equal_right := He.glo_ok X G (c.t.d.fact 30 (f := .glo "_law_equal_right") rfl)
  b_law_equal_right := BB_law_equal_right c
  F_law_odd_people := FF_law_odd_people c
  g_law_odd_people := He.glo_ok X G (c.t.d.fact 31 (f := .glo "_law_odd_people") rfl)
  b_law_odd_people := BB_law_odd_people c
  F_law_odd_ties := FF_law_odd_ties c
  g_law_odd_ties := He.glo_ok X G (c.t.d.fact 32 (f := .glo "_law_odd_ties") rfl)
  b_law_odd_ties := BB_law_odd_ties c
  F_law_refused_right := FF_law_refused_right c
  g_law_refused_right := He.glo_ok X G (c.t.d.fact 33 (f := .glo "_law_refused_right") rfl)
  b_law_refused_right := BB_law_refused_right c
  F_law_news_right := FF_law_news_right c
  g_law_news_right := He.glo_ok X G (c.t.d.fact 34 (f := .glo "_law_news_right") rfl)
  b_law_news_right := BB_law_news_right c
  F_law_rings_right := FF_law_rings_right c
  g_law_rings_right := He.glo_ok X G (c.t.d.fact 35 (f := .glo "_law_rings_right") rfl)
  b_law_rings_right := BB_law_rings_right c
  F_law := FF_law c
  g_law := He.glo_ok X G (c.t.d.fact 36 (f := .glo "law") rfl)
  b_law := BB_law c
  gC := He.glo_ok X G (c.t.d.fact 37 (f := .glo "Village") rfl)
  cl := He.cls_ok (c.t.d.fact 38 (f := .cls "Village") rfl)
  mkr := He.mkr_ok (c.t.d.fact 39 (f := .mkr "Village") rfl)
  hNe := He.eqO_ok (exAt c 0 (f := exF0) rfl)
  hC := clsOk_ok (exAt c 1 (f := exF1) rfl)
  nf := fun k => of_decide_eq_true (List.all_eq_true.mp (exAt c 2 (f := exF2) rfl) k (by cases k <;> simp))
  kit := fun k => of_decide_eq_true (List.all_eq_true.mp (exAt c 3 (f := exF3) rfl) k (by cases k <;> simp))
  ca := He.eqO_ok (exAt c 4 (f := exF4) rfl)
  cg := He.eqO_ok (exAt c 5 (f := exF5) rfl)
  ct := of_decide_eq_true (exAt c 6 (f := exF6) rfl)
  cm := of_decide_eq_true (exAt c 7 (f := exF7) rfl)
  no_people := He.noat_ok (c.t.d.fact 40 (f := .noat "Village" "_people") rfl)
  no_ties := He.noat_ok (c.t.d.fact 41 (f := .noat "Village" "_ties") rfl)
  no_news := He.noat_ok (c.t.d.fact 42 (f := .noat "Village" "_news") rfl)
  no_friends := He.noat_ok (c.t.d.fact 43 (f := .noat "Village" "_friends") rfl)
  F_v_init := FF_v_init c
  m_v_init := He.meth_ok (c.t.d.fact 44 (f := .meth "Village" "__init__") rfl)
  b_v_init := BB_v_init c
  F_v_eq := FF_v_eq c
  m_v_eq := He.meth_ok (c.t.d.fact 45 (f := .meth "Village" "__eq__") rfl)
  b_v_eq := BB_v_eq c
  F_v_people := FF_v_people c
  m_v_people := He.meth_ok (c.t.d.fact 46 (f := .meth "Village" "people") rfl)
  b_v_people := BB_v_people c
  F_v_ties := FF_v_ties c
  m_v_ties := He.meth_ok (c.t.d.fact 47 (f := .meth "Village" "ties") rfl)
  b_v_ties := BB_v_ties c
  F_v_news := FF_v_news c
  m_v_news := He.meth_ok (c.t.d.fact 48 (f := .meth "Village" "news") rfl)
  b_v_news := BB_v_news c
  F_v_friends := FF_v_friends c
  m_v_friends := He.meth_ok (c.t.d.fact 49 (f := .meth "Village" "friends") rfl)
  b_v_friends := BB_v_friends c
  F_v_way := FF_v_way c
  m_v_way := He.meth_ok (c.t.d.fact 50 (f := .meth "Village" "way") rfl)
  b_v_way := BB_v_way c
  F_v_behind := FF_v_behind c
  m_v_behind := He.meth_ok (c.t.d.fact 51 (f := .meth "Village" "behind") rfl)
  b_v_behind := BB_v_behind c
  x_BadPeople := XX_BadPeople X G c
  x_BadTies := XX_BadTies X G c
  x_BadNews := XX_BadNews X G c
  x_NoPerson := XX_NoPerson X G c
  ne_BadPeople_BadTies := He.exm_ok (c.t.d.fact 68 (f := .exm "BadPeople" "BadTies" false) rfl)
  ne_BadPeople_BadNews := He.exm_ok (c.t.d.fact 69 (f := .exm "BadPeople" "BadNews" false) rfl)
  ne_BadPeople_NoPerson := He.exm_ok (c.t.d.fact 70 (f := .exm "BadPeople" "NoPerson" false) rfl)
  ne_BadTies_BadPeople := He.exm_ok (c.t.d.fact 71 (f := .exm "BadTies" "BadPeople" false) rfl)
  ne_BadTies_BadNews := He.exm_ok (c.t.d.fact 72 (f := .exm "BadTies" "BadNews" false) rfl)
  ne_BadTies_NoPerson := He.exm_ok (c.t.d.fact 73 (f := .exm "BadTies" "NoPerson" false) rfl)
  ne_BadNews_BadPeople := He.exm_ok (c.t.d.fact 74 (f := .exm "BadNews" "BadPeople" false) rfl)
  ne_BadNews_BadTies := He.exm_ok (c.t.d.fact 75 (f := .exm "BadNews" "BadTies" false) rfl)
  ne_BadNews_NoPerson := He.exm_ok (c.t.d.fact 76 (f := .exm "BadNews" "NoPerson" false) rfl)
  ne_NoPerson_BadPeople := He.exm_ok (c.t.d.fact 77 (f := .exm "NoPerson" "BadPeople" false) rfl)
  ne_NoPerson_BadTies := He.exm_ok (c.t.d.fact 78 (f := .exm "NoPerson" "BadTies" false) rfl)
  ne_NoPerson_BadNews := He.exm_ok (c.t.d.fact 79 (f := .exm "NoPerson" "BadNews" false) rfl)
  z_isinstance := He.free_ok X G (c.t.d.fact 80 (f := .free "isinstance") rfl)
  z_list := He.free_ok X G (c.t.d.fact 81 (f := .free "list") rfl)
  z_tuple := He.free_ok X G (c.t.d.fact 82 (f := .free "tuple") rfl)
  z_int := He.free_ok X G (c.t.d.fact 83 (f := .free "int") rfl)
  z_bool := He.free_ok X G (c.t.d.fact 84 (f := .free "bool") rfl)
  z_str := He.free_ok X G (c.t.d.fact 85 (f := .free "str") rfl)
  z_dict := He.free_ok X G (c.t.d.fact 86 (f := .free "dict") rfl)
  z_len := He.free_ok X G (c.t.d.fact 87 (f := .free "len") rfl)
  z_all := He.free_ok X G (c.t.d.fact 88 (f := .free "all") rfl)
  z_any := He.free_ok X G (c.t.d.fact 89 (f := .free "any") rfl)
  z_enumerate := He.free_ok X G (c.t.d.fact 90 (f := .free "enumerate") rfl)
  z_range := He.free_ok X G (c.t.d.fact 91 (f := .free "range") rfl)
  z_zip := He.free_ok X G (c.t.d.fact 92 (f := .free "zip") rfl)
  z_max := He.free_ok X G (c.t.d.fact 93 (f := .free "max") rfl)
  z_sorted := He.free_ok X G (c.t.d.fact 94 (f := .free "sorted") rfl)
  k_LETTERS := He.str_ok X G (c.t.d.fact 95 (f := .str "LETTERS" "abcdefghijklmnopqrstuvwxyz") rfl)
  k_SIGNS := He.str_ok X G (c.t.d.fact 96 (f := .str "SIGNS" "abcdefghijklmnopqrstuvwxyz0123456789") rfl)
  k_LONGEST := He.int_ok X G (c.t.d.fact 97 (f := .int "LONGEST_NAME" 8) rfl)
/-- the tables of code -/
abbrev TbL (K : PySem.W.Frag) : List (Addr × Str) := [((He.cT K ("_law_refused_right", none)).2, "_law_refused_right.<locals>.<lambda>"), ((He.cT K ("_law_news_right", none)).2, "_law_news_right.<locals>.<lambda>"), ((He.cT K ("_law_rings_right", none)).2, "_law_rings_right.<locals>.<lambda>")]
theorem metL (c : He.SaysX faL fnL [] tfL exB w h K) : ∃ o, K.lookup (adsL K).a_law_met = some o ∧ o.cls = .type "function" := by
  have e : PySem.W.typeIn K (.ref (He.ga K "_law_met")) = some (.type "function") := beq_iff_eq.mp (exAt c 24 (f := exF24) rfl)
  obtain ⟨o, ho, hc⟩ := Option.map_eq_some_iff.mp e
  exact ⟨o, ho, hc⟩
theorem distL (c : He.SaysX faL fnL [] tfL exB w h K) : (He.cT K ("_law_refused_right", none)).2 ≠ (He.cT K ("_law_news_right", none)).2 ∧ (He.cT K ("_law_refused_right", none)).2 ≠ (He.cT K ("_law_rings_right", none)).2 ∧ (He.cT K ("_law_news_right", none)).2 ≠ (He.cT K ("_law_rings_right", none)).2 := of_decide_eq_true (exAt c 25 (f := exF25) rfl)
end
end HS

set_option maxHeartbeats 0
namespace HS
open PySem PySem.Spec L2
theorem lawL {w : World} {h : Heap} {K : PySem.W.Frag} {mg : Str → Option Value} {fa : Addr} (X : K.In h) (G : h.Ns mainGlobals mg) (hfa : mg ("law" : Str) = some (.ref fa)) (c : He.SaysX faL fnL [] tfL exB w h K) :
    LamX.LawAtS PySem.Challenge.rw_heardsince_k01_whole_villages w K CX0 11 63 "script" mg fa h := by
  have T := txtL X G c
  have e := hfa.symm.trans T.g_law
  cases e
  obtain ⟨d12, d13, d23⟩ := distL c
  refine ⟨(adsL K).d_law, tfL.map (He.cT K), sp_law K (TbL K), fun p hp => ?_, fun p hp => ?_, fun p hp => ?_, fun s u => ?_, fun H a ns hl _ hT hS => ?_, fun base KB NB TB => ?_⟩
  · obtain ⟨q, hq, rfl⟩ := List.mem_map.mp hp
    exact c.empty q hq
  · obtain ⟨q, hq, rfl⟩ := List.mem_map.mp hp
    exact c.out q hq
  · obtain ⟨q, hq, rfl⟩ := List.mem_map.mp hp
    exact PySem.W.codeHd_of_K X (c.hd q hq)
  · obtain ⟨oc, od, kV, doc, pm, an, cdv, ct, osl, e, lk, hcd⟩ := T.F_law.ex
    rw [e]
    exact .of_eq rfl
  · refine ⟨a, ns, rfl, hS, hl, fun p hp => ?_, fun _ => rfl⟩
    have hmem : ∃ q ∈ tfL, p.1 = (He.cT K q).2 := by
      simp only [TbL, List.mem_cons, List.not_mem_nil, or_false] at hp
      rcases hp with rfl | rfl | rfl
      · exact ⟨_, List.mem_cons_self, rfl⟩
      · exact ⟨_, List.mem_cons_of_mem _ List.mem_cons_self, rfl⟩
      · exact ⟨_, List.mem_cons_of_mem _ (List.mem_cons_of_mem _ List.mem_cons_self), rfl⟩
    obtain ⟨q, hq, e⟩ := hmem
    refine ⟨#[], ?_, trivial, fun pos cv z => by cases z⟩
    rw [e]
    exact hT _ (List.mem_map.mpr ⟨q, hq, rfl⟩)
  · have t1 := TB _ (List.mem_map.mpr ⟨("_law_refused_right", none), List.mem_cons_self, rfl⟩)
    have t2 := TB _ (List.mem_map.mpr ⟨("_law_news_right", none), List.mem_cons_of_mem _ List.mem_cons_self, rfl⟩)
    have t3 := TB _ (List.mem_map.mpr ⟨("_law_rings_right", none), List.mem_cons_of_mem _ (List.mem_cons_of_mem _ List.mem_cons_self), rfl⟩)
    have N := ok_news (P := PySem.Challenge.rw_heardsince_k01_whole_villages.prog) (w := w) T (Tb := TbL K) (code_at (FF_law_news_right c)) t2 (List.mem_cons_of_mem _ List.mem_cons_self) (fun p hp e => ?_)
    have R := ok_rings (P := PySem.Challenge.rw_heardsince_k01_whole_villages.prog) (w := w) T (Tb := TbL K) (code_at (FF_law_rings_right c)) t3 (List.mem_cons_of_mem _ (List.mem_cons_of_mem _ List.mem_cons_self)) (fun p hp e => ?_)
    have F := ok_refused (P := PySem.Challenge.rw_heardsince_k01_whole_villages.prog) (w := w) T (Tb := TbL K) (code_at (FF_law_refused_right c)) t1 List.mem_cons_self (fun p hp e => ?_) (metL c) N R
    · exact ok_law T F
    · simp only [TbL, List.mem_cons, List.not_mem_nil, or_false] at hp
      rcases hp with rfl | rfl | rfl
      · rfl
      · exact absurd e.symm d12
      · exact absurd e.symm d13
    · simp only [TbL, List.mem_cons, List.not_mem_nil, or_false] at hp
      rcases hp with rfl | rfl | rfl
      · exact absurd e d13
      · exact absurd e d23
      · rfl
    · simp only [TbL, List.mem_cons, List.not_mem_nil, or_false] at hp
      rcases hp with rfl | rfl | rfl
      · exact absurd e d12
      · rfl
      · exact absurd e.symm d23
end HS
open PySem PySem.W PySem.Calls PyProof.Rows
theorem PySem.Challenge.cw_heardsince_k01_whole_villages_holds : PySem.Challenge.rw_heardsince_k01_whole_villages.Holds := by
  w_on; o_law
  refine HandSHeadRun.head_any (r := HS.RR) (q := view HS.RR.prog [50]) (H := HS.hkL) (ob := HS.obL) (M := 4000) (loose := HS.nmL) (d := HandSHeadRun.topDef HS.RR.prog 50) (kwd := []) HS.obL_eq
    (by kernel_rfl) (fun s => by kernel_rfl) HS.runL (by kernel_rfl) (by kernel_rfl) (by kernel_rfl) (by rfl) (by first | assumption | decide +kernel) (by decide +kernel) ⟨rfl, rfl, rfl, rfl, rfl, by decide +kernel⟩ ?hw ?hc
  case hw => w_witness2
  case hc =>
    refine LamX.walk_ofTsE (l := PySem.Challenge.rw_heardsince_k01_whole_villages) (n := 63) (k := 11) (x := "script") (CX := fun _ => L2.CX0) rfl (by decide) (by kernel_rfl) ⟨rfl, by decide, by decide⟩ ?F (fun _ _ _ _ _ z => z)
    intro w mg fa h Y G hmg0
    obtain ⟨K, KX, c⟩ := Y
    have hmg : mg ("law" : PySem.Str) = some (.ref fa) := by
      have e : (HandSHeadRun.topDef HS.RR.prog 50).name = ("law" : PySem.Str) := by kernel_rfl
      rw [← e]
      exact hmg0
    exact ⟨K, KX, HS.lawL KX G hmg c⟩

