import PyProof.Rows.All
import OpenK.KLine
import OpenK.KOwn
import KE.OsHead
import KE.KFromBytes
import KE.KStateDown
import PyFlat
import KE.BitLaws
import KE.KTurns
import KE.KRevIter
import Open.SpecLaws
import KE.KTypeOf
import PySem.Challenge.RW_bitfloats_s01_answers
set_option Elab.async false
set_option linter.all false
set_option maxRecDepth 100000
set_option compiler.extract_closed false
theorem Ke {p:Prop} (h:p:=by decide):p:=h
theorem Kk {p:Prop} (h:p:=by omega):p:=h
def ag:=@if_neg
def ao:=@if_pos
def aA:=@Int.eq_ofNat_of_zero_le
def aF:=@List.length_map
def aJ:=@if_true
def aM:=@if_false
def aN:=@Int.toNat_natCast
def aO:=@Bool.false_eq_true
def aT:=@List.getElem?_map
def aV:=@Bool.not_eq_true
def a7:=@congrArg
def bh:=@Rat.intCast_mul
def bj:=@decide_eq_true_iff
def bo:=@Int.le_of_lt
def bu:=@Rat.intCast_natCast
def bB:=@Nat.le_refl
def bF:=@Rat.zero_mul
def bI:=@List.getElem?_eq_getElem
def bM:=@Option.some.inj
def bQ:=@Rat.div_def
def bR:=@Bool.or_eq_true
def bS:=@decide_eq_false
def bV:=@Rat.mul_assoc
def bZ:=@Nat.le_trans
def b5:=@Bool.and_eq_true
def cg:=@Nat.lt_of_lt_of_le
def cz:=@List.size_toArray
def cC:=@Rat.le_of_lt
def cI:=@Rat.mul_one
def cJ:=@Int.natCast_add
def cN:=@List.length_cons
def cO:=@List.mem_cons
def cT:=@List.length_append
def cV:=@Nat.two_pow_pos
def de:=@Int.one_mul
def dv:=@decide_eq_true
def dw:=@List.mem_cons_of_mem
def dB:=@Bool.false_ne_true
def dF:=@beq_iff_eq
def dH:=@decide_eq_true_eq
def dI:=@Rat.intCast_add
def dJ:=@Nat.ne_of_lt
def dQ:=@Rat.natCast_le_natCast
def dZ:=@Rat.not_lt
def ez:=@List.length_drop
def eD:=@Nat.pow_add
def eF:=@Rat.natCast_mul
def eG:=@Nat.mul_comm
def eP:=@List.getElem?_eq_none
def eS:=@Int.natCast_mul
def eT:=@Bool.or_self
def eV:=@of_decide_eq_true
def eX:=@Bool.true_and
def fb:=@Rat.intCast_pos
def fc:=@Rat.mul_comm
def fA:=@Nat.pow_le_pow_right
def fC:=@Int.toNat_of_nonneg
def fD:=@List.mem_cons_self
def fF:=@Rat.mul_pos
def fH:=@Int.mul_nonneg
def fK:=@Nat.mod_lt
def fL:=@Int.natCast_nonneg
def fN:=@List.length_take
def fS:=@Bool.not_false
def fT:=@List.getElem_mem
def fU:=@List.map_cons
def fW:=@List.append_nil
def f9:=@Int.ediv_nonneg
def gw:=@Rat.mul_le_mul_of_nonneg_left
def gz:=@Int.pow_succ
def gE:=@Nat.div_add_mod
def gZ:=@Nat.pow_succ
def hG:=@List.getElem?_eq_some_iff
def ic:=@Bool.false_and
def iC:=@Nat.zero_le
def iH:=@Rat.intCast_neg
def iL:=@Int.mul_comm
def iO:=@Rat.div_lt_iff
def iX:=@Int.ofNat_le
def i6:=@Int.mul_le_mul_of_nonneg_right
def i7:=@Int.ofNat.inj
def i8:=@Nat.lt_irrefl
def jh:=@Rat.one_mul
def ji:=@Rat.mul_eq_zero
def jk:=@Int.pow_add
def ju:=@List.map_map
def jw:=@Bool.and_eq_true_iff
def jy:=@List.mem_map
def jz:=@Int.ne_of_gt
def jH:=@Rat.intCast_eq_zero_iff
def j4:=@Rat.mul_le_mul_of_nonneg_right
def j6:=@Int.ofNat_lt
def j8:=@List.ext_getElem?
def j9:=@Ne.symm
def kg:=@List.mem_append_right
def kj:=@Bool.eq_iff_iff
def kI:=@List.append_assoc
def k6:=@Nat.add_comm
def k9:=@decide_false
def lB:=@Nat.add_sub_cancel
def lC:=@Int.add_mul
def lF:=@Nat.zero_add
def lK:=@Int.lt_trans
def lL:=@Bool.false_or
def lO:=@of_decide_eq_false
def mh:=@List.drop_drop
def mj:=@Int.ediv_le_self
def mw:=@Nat.min_eq_left
def my:=@Nat.le_of_lt
def mB:=@List.replicate_succ
def ni:=@List.take_of_length_le
def nr:=@List.lookup_cons
def nB:=@List.all_eq_true
def nD:=@Rat.intCast_sub
def nE:=@Rat.neg_neg
def nF:=@Rat.zpow_natCast
def nL:=@Int.sub_mul
def oG:=@Int.le_refl
def oH:=@List.getElem?_range
def oI:=@List.isEmpty_iff
def oJ:=@List.map_take
def oN:=@List.map_drop
def oO:=@List.mem_range
def oP:=@List.filterMap_cons
def pL:=@List.mem_append
def pM:=@Int.emod_nonneg
def pN:=@Rat.add_mul
def pO:=@Rat.mul_nonneg
def pP:=@Nat.one_le_two_pow
def pR:=@Rat.inv_eq_of_mul_eq_one
def pU:=@Int.mul_pos
def qD:=@Int.mul_le_mul_of_nonneg_left
def qS:=@Decidable.byContradiction
def qT:=@Rat.neg_mul
def qY:=@Nat.mod_eq_of_lt
def qZ:=@Int.lt_of_le_of_lt
def rg:=@Rat.natCast_pos
def rk:=@List.length_range
def rp:=@Option.map_some
def sG:=@Nat.succ.inj
def sR:=@List.takeWhile_cons
def sV:=@List.take_succ
def tP:=@decide_eq_decide
def tR:=@List.take_length
def tS:=@Int.le_trans
def tT:=@beq_eq_false_iff_ne
def tU:=@PyProof.Rows.callWith_type1
def tY:=@List.of_mem_zip
def uh:=@List.getElem?_append_right
def uk:=@List.getElem?_append_left
def uq:=@List.mem_of_getElem?
def uu:=@List.flatten_cons
def uD:=@Bool.and_false
def uF:=@List.all_cons
def uI:=@Nat.le_add_right
def uW:=@Int.mul_ediv_add_emod
def vi:=@Rat.div_mul_cancel
def vB:=@Bool.not_true
def vC:=@Nat.pos_of_ne_zero
def vO:=@Nat.lt_log2_self
def vZ:=@Nat.mul_le_mul_right
def v7:=@Nat.add_mul
def wk:=@Nat.mul_assoc
def xD:=@Rat.natCast_add
def xE:=@Int.lt_iff_le_and_ne
def xF:=@List.foldl_append
def xG:=@Bool.not_eq_true'
def xH:=@List.map_congr_left
def xI:=@List.drop_zero
def xJ:=@List.drop_eq_nil_of_le
def xS:=@Option.toList_some
def yH:=@Option.bind_some
def yI:=@List.map_append
def yJ:=@Nat.le_of_ble_eq_true
def yQ:=@List.mem_append_left
def yS:=@Array.length_toList
def zq:=@Nat.le_of_eq
def zr:=@List.nodup_cons
def zu:=@Nat.le_of_succ_le
def zv:=@Rat.le_floor_iff
def zw:=@Rat.mul_lt_mul_right
def Ai:=@Rat.le_refl
def Ak:=@Nat.log2_self_le
def Al:=@Rat.natCast_lt_natCast
def An:=@Int.pow_pos
def Ao:=@Int.natCast_sub
def Bf:=@Rat.le_trans
def Bq:=@Rat.inv_mul_rev
def Cs:=@decide_true
def DG:=@Nat.div_eq_of_lt
def DH:=@Nat.mul_lt_mul_of_pos_right
def DI:=@Nat.mul_le_mul
def DJ:=@Bool.and_self
def DK:=@Rat.natCast_nonneg
def DL:=@Nat.le_of_not_lt
def DN:=@Int.mul_assoc
def DO:=@List.take_zero
def DP:=@UInt8.toNat_ofNat'
def DQ:=@Nat.pow_mul
def DU:=@List.length_zip
def DV:=@Nat.min_eq_right
def DY:=@List.drop_succ_cons
def Eo:=@List.getElem?_set_self
def Er:=@List.getElem?_set_ne
def Et:=@List.mem_filterMap
def EK:=@Int.fdiv_eq_ediv_of_nonneg
def EN:=@Nat.lt_succ_self
def ES:=@List.getElem?_replicate
def E1:=@PyProof.Rows.slot_tuple_getitem
def Fe:=@List.length_set
def Fp:=@List.range_succ_eq_map
def Fy:=@Nat.lt_succ_of_lt
def FR:=@Rat.floor_lt_iff
def FT:=@Int.emod_lt_of_pos
def F8:=@Rat.mul_inv_cancel
def Go:=@Rat.intCast_nonneg
def G2:=@Rat.natCast_pow
def Hf:=@Rat.num_nonneg
def Hg:=@Rat.mkRat_eq_div
def Hh:=@Rat.mkRat_self
def Hj:=@Rat.natCast_eq_zero_iff
def Hk:=@Rat.lt_div_iff
def Hl:=@Nat.div_lt_of_lt_mul
def Hm:=@Nat.add_div_right
def Hn:=@Nat.add_mod_right
def Hv:=@Int.emod_eq_of_lt
def Hz:=@Nat.mul_le_mul_left
def HB:=@Bool.or_false
def HD:=@Rat.natCast_inj
def HI:=@List.length_eq_zero_iff
def HX:=@List.mem_of_mem_take
def Ii:=@List.take_append_drop
def IG:=@List.cons_append
def IU:=@Bool.not_eq_false
def IV:=@List.drop_eq_getElem_cons
def JY:=@List.drop_left
def JZ:=@Int.natAbs_mul
def J1:=@Int.natAbs_pow
def J2:=@Int.natCast_ediv
def J3:=@Nat.div_le_self
def J4:=@Int.natAbs_natCast
def J7:=@List.getElem?_zip_eq_some
def J8:=@Int.natCast_one
def J9:=@Rat.le_of_mul_le_mul_right
def Ka:=@Rat.mul_lt_mul_of_pos_left
def Kb:=@decide_eq_false_iff_not
def Kc:=@Nat.succ_pred_eq_of_pos
def Kd:=@Nat.mul_lt_mul_of_lt_of_le
local macro_rules | `(tactic| omega)=>`(tactic| lia)
namespace PySem.W.Fast
def tw3203603314958562996:=0
def tw171709050029965103:=0
def tw10721422261641134885:=0
def tw9481694261540318879:=0
def tw17980165106425036503:=0
def tw12300353878692657165:=0
def tw4192458080138339281:=0
def tw10212124901104624846:=0
def tw1603693878522311429:=0
def tw15376212466034926858:=0
def tw7935512588689353308:=0
def tw2947780053272617180:=0
def tw9619955581798564588:=0
def tw14621931072559188682:=0
def tw2330497207733343080:=0
def tw796408490310512710:=0
def tw15541379886150830164:=0
def tw6723067025971127663:=0
def tw2789881043192008257:=0
def tw2282137409792891266:=0
def tw257445802628198980:=0
def tw10373489027037935588:=0
def tw4344930694172150021:=0
def tw196264045789465894:=0
def tw4015410677059530952:=0
def tw7976166728889862604:=0
def tw5107356915981680205:=0
def tw7458660171509777389:=0
def tw15368889692631105934:=0
def tw1295189513539283665:=0
def tw12761936551809949273:=0
def tw5979555860064583545:=0
def tw7528342345477568454:=0
def tw12672603126399383317:=0
def tw9493870922235323442:=0
def tw16296479695914354161:=0
def tw9178862320869912922:=0
def tw1109783177853020580:=0
def tw9595908444370399511:=0
def tw5266667590600143712:=0
def tw228685974876071496:=0
def tw17242521198670464345:=0
def tw4209485107503018313:=0
def tw17388367433444265990:=0
def tw9220938166134470435:=0
def tw14901877140466004701:=0
def tw12174744006126479098:=0
def tw14936405702005174761:=0
def tw4005486459982646510:=0
def tw10243378661412755963:=0
def tw5725519613471921936:=0
def tw3328122213609583203:=0
def tw14343874093505254825:=0
def tw12527686982003810923:=0
def tw4227376433437735437:=0
def tw14282825363957362779:=0
def tw11256922281459138316:=0
def tw14239034548205336799:=0
def tw18193371088237670836:=0
def tw9654848595912135411:=0
def tw16349751798446538271:=0
def tw7384630875536039357:=0
def tw3025158122778088880:=0
def tw1309847695669512913:=0
def tw3524008209610735484:=0
def tw9268121311574488574:=0
def tw10040787722370355390:=0
def tw13072887457274022896:=0
def tw6449162917208666232:=0
def tw8835403758584974923:=0
def tw1010155891557745885:=0
def tw15970168415030850503:=0
def tw12939490237724559854:=0
def tw5628663934742812632:=0
def tw18318935814039081162:=0
def tw9996559147349086904:=0
def tw17179607091879389575:=0
def tw9832687080407139678:=0
def tw1464355760516697031:=0
def tw17705268793438788098:=0
def tw3802792607904541220:=0
def tw15636057219907060207:=0
def tw4043095371242056192:=0
def tw7884459748330200043:=0
def tw4678247071392573297:=0
def tw10485410666513908584:=0
def tw7873729941382520929:=0
def tw13403222660821810975:=0
def tw18071620998276885336:=0
def tw18429562628191141141:=0
def tw15305976986907687444:=0
def tw11703163054443431652:=0
def tw2224820541864107375:=0
def tw16920606830814600755:=0
def tw1931839182648211616:=0
def tw5575345220168094431:=0
def tw12179148474772448351:=0
def tw14057687537774452260:=0
def tw15864429936059011301:=0
def tw12099204525571788303:=0
def tw6185067090005030873:=0
def tw15431810143080647605:=0
def tw1881577393645286494:=0
def tw14343101380513109711:=0
def tw4278340887997361688:=0
def tw1542379214379276042:=0
def tw2783085673182414145:=0
def tw15785288840867215491:=0
def tw640902590735826034:=0
def tw11353602510597884689:=0
def tw6887107656831377252:=0
def tw13505974548707908852:=0
def tw962832370835661470:=0
def tw6143713157066552532:=0
def tw13200645456230713869:=0
def tw3122960838812552073:=0
def tw17443156392637249015:=0
def tw1380365410574786333:=0
def tw2126036214727991018:=0
def tw7309342444317058296:=0
def tw16572870144212623393:=0
def tw2756659397587129737:=0
def tw12916321890608742362:=0
def tw11776516893279138770:=0
def tw7155473542133349718:=0
def tw7426112869045212527:=0
def tw13324128858778519498:=0
def tw6364681072634592000:=0
def tw3415262576401969920:=0
def tw6123779329271863702:=0
def tw8581321673993540606:=0
def tw7791514840135648496:=0
def tw11167225863930974588:=0
def tw7972073622863585126:=0
def tw1736812124749817172:=0
def tw5673056952755146326:=0
def tw10926653131285704332:=0
def tw5594816118167409119:=0
def tw8027789970708503887:=0
def tw4468190808899366216:=0
def tw572831048127792221:=0
def tw10183851759746469995:=0
def tw5126836429084802622:=0
def tw12161216603454754838:=0
def tw14718517246865510009:=0
def tw10336295556232695943:=0
def tw8209602484131025442:=0
def tw15438636509543071271:=0
def tw3721385285596786183:=0
def tw6992754820759074617:=0
def tw6654771726329130183:=0
def tw4332156495133476936:=0
def tw14478005976388797943:=0
def tw10017382652710222804:=0
def tw2453510973620461120:=0
def tw9599541369027578402:=0
def tw12296979485757508918:=0
def tw13040748503896490861:=0
def tw9750147993669447523:=0
def tw8694623351382929936:=0
def tw4224044536307840777:=0
def tw9733695520281087402:=0
def tw14799083394150331751:=0
def tw8407411725765600471:=0
def tw5263000955566313100:=0
def tw9426586064360056744:=0
def tw9545912894499489077:=0
def tw7436482072256945382:=0
def tw17007262739279319545:=0
def tw2952500930794446927:=0
def tw11279383750704254587:=0
def tw11082225817338493109:=0
def tw9636658431277117277:=0
def tw14957649572911000202:=0
def tw3141615428141326474:=0
def tw817678445638636212:=0
def tw15751299430877227902:=0
def tw10407191370551789930:=0
def tw18121276647601434729:=0
def tw7241395819610825667:=0
def tw5551101128362636938:=0
def tw3549228445192614279:=0
def tw17694257472421074060:=0
def tw11965387120771427134:=0
def tw1154653871030734024:=0
def tw1277656401670130092:=0
def tw12351535583589927630:=0
def tw4523060979509937062:=0
def tw16044420124295349057:=0
def tw6082933245982810353:=0
def tw1558548665556340655:=0
def tw14372002366475716546:=0
def tw2262297737178524845:=0
def tw8427074455202958030:=0
def tw2866921969585254748:=0
def tw5147727266543756411:=0
def tw7155146381931521402:=0
def tw1602716246118684294:=0
def tw6931142256977237085:=0
def tw5987243246117958164:=0
def tw10251860363281531985:=0
def tw9085209935983291649:=0
def tw130234186825866456:=0
def tw9440112437250266485:=0
def tw5683312979000238639:=0
def tw4262577177805350605:=0
def tw1689044009791464204:=0
def tw7960237014368883644:=0
def tw17327493226994130444:=0
def tw11812903730688820788:=0
def tw13462325247608805338:=0
def tw2021520601600142063:=0
def tw8453859483558849974:=0
def tw1233949955782447067:=0
def tw3432468784214618904:=0
def tw3893712357559323729:=0
def tw2461838133355058441:=0
def tw14283760904764231813:=0
def tw16395230598510172177:=0
def tw8637713799738032986:=0
def tw6780533818545158390:=0
def tw15399344098596837156:=0
def tw12925113818706086425:=0
def tw13132678056832578252:=0
def tw13216088682765883211:=0
def tw15477529647704041321:=0
def tw16593699433947568661:=0
def tw12901507995271201957:=0
def tw17769434604258794677:=0
def tw13940004180541775286:=0
def tw6212718552722565766:=0
def tw14996695262291215387:=0
def tw16855459617074341962:=0
def tw15187823548838158540:=0
end PySem.W.Fast
section
open PySem PySem.W PyProof.Rows
set_option maxHeartbeats 0
def G.r1:OpenRow:={ prog:=PySem.Challenge.rw_bitfloats_s01_answers.prog,name:="answers",records:=[],args:=[.list .int],returns:=.any,pre:=.lit (.bool true),post:=.lit (.bool true),raises:=[],mutates:=[],within:=[],unshared:=false,same:=none,under:=⟨true,true,true⟩,after:=⟨true,true,true⟩,apart:=false,loose:=[],pinned:=true,writes:=false }
open_top G.hd for G.r1
theorem G.left:∃(as:List Addr) (e:∀P,as=(G.hd.heap_1 P).map (·.1)),LeftO PySem.Challenge.rw_bitfloats_s01_answers.prog G.hd.view_1 [] (fun s=>xlAt G.hd.view_1 [] s&&recOk [] s) (Hook.obs (kHook G.hd.heap_1 as e)) (Hook.val (kHook G.hd.heap_1 as e)) 9806:=by
 have h:=LeftO.of_pieces (q:=G.hd.view_1) (loose:=[]) (N:=9806) (g0:=true) (Xt:=fun s=>xlAt G.hd.view_1 [] s&&recOk [] s) (boot_open (N:=9806) G.hd._proof_4 Ke G.hd._proof_5) G.hd._proof_903 G.hd._proof_901 Ke (fun w=>funext fun os=>G.hd._proof_934 w os);exact⟨_,_,h⟩
theorem G.bl {a b:Bool} (h:(a&&b)=true):a=true:=(jw.mp h).1
theorem G.ok:(chainsOk G.hd.view_1&&opensWell PySem.Challenge.rw_bitfloats_s01_answers.prog)=true:=G.bl G.hd._proof_2
theorem G.lor (r:OpenRow) (z:r.wellSaid=true):looksOpen r.prog=true:=by
 unfold OpenRow.wellSaid OpenRow.partSaid at z;simp only[b5] at z;exact z.1.1.1.1.1.1.1.1.1.1.1.1.1.1.1
theorem G.wss (s:OpenSpec) (lo:looksOpen s.prog=true) (h:(s.prog.boundNames.contains s.name&&!PySem.startupNames.contains s.name&&specDef s.prog s.name s.args.length&&s.args.all Codec.fits&&s.ret.ok)=true):s.wellSaid=true:=by
 unfold OpenSpec.wellSaid;rw[lo,eX];exact h
theorem G.ws:PySem.Challenge.rw_bitfloats_s01_answers.wellSaid=true:=G.wss _ (G.lor G.r1 G.hd._proof_1) (by decide +kernel)
set_option maxHeartbeats 0 in
theorem G.use {q:Program} {K:Params→PySem.W.Frag} {as:List Addr} {e:∀P,as=(K P).map (·.1)} {N:Nat} {d:DefRec} {VY:List (Str×Expr)}
  (hl:LeftO PySem.Challenge.rw_bitfloats_s01_answers.prog q [] (fun s=>xlAt q [] s&&recOk [] s) (Hook.obs (kHook K as e)) (Hook.val (kHook K as e)) N)
  (Yl:defOf q PySem.Challenge.rw_bitfloats_s01_answers.name=some (d,VY)) (hp:PySem.Challenge.rw_bitfloats_s01_answers.prog.theDef PySem.Challenge.rw_bitfloats_s01_answers.name=some (d.params,d.body,d.scope)) (hk:kwWritten? d.params.kwonlyargs d.params.kw_defaults=some VY)
  (ok:(chainsOk q&&opensWell PySem.Challenge.rw_bitfloats_s01_answers.prog)=true)
  (call:WalkOS q [] (XL q []) (Hook.says (kHook K as e)) PySem.Challenge.rw_bitfloats_s01_answers d VY fun f vs=>PySem.call f vs):PySem.Challenge.rw_bitfloats_s01_answers.Holds:=by
 refine holds_os (q:=q) (loose:=[]) (Xt:=fun s=>xlAt q [] s&&recOk [] s) (XP:=XL q []) (Yf:=Hook.obs (kHook K as e)) (Ya:=Hook.val (kHook K as e)) (YP:=Hook.says (kHook K as e)) (N:=N) hl (Hook.of (kHook K as e)) (Hook.keeps (kHook K as e)) (fun s e=>xl_of s (jw.mp e).1) XL.keeps Yl hp hk (fun s e=>recFacts_of (jw.mp e).2) os_shapes ?a ok ?b ?c call
 case a=>exact G.ws
 case b=>exact⟨rfl,rfl,rfl,rfl,rfl,G.hd._proof_3⟩
 case c=>exact⟨[.list [.int 8]],by decide +kernel,by decide +kernel⟩
end

abbrev aP:=PySem.W.Frag
theorem Ym {p:Prop} (h:p:=by rfl):p:=h
abbrev cW:Lean.Syntax:=Ym._auto_1
theorem Yn {p:Prop} (h:p:=by decide):p:=h
abbrev ig:Lean.Syntax:=Yn._auto_1
theorem Yo {p:Prop} (h:p:=by intros;rfl):p:=h
abbrev rd:Lean.Syntax:=Yo._auto_1
theorem Yp {p:Prop} (h:p:=by intro _;rfl):p:=h
abbrev Ho:Lean.Syntax:=Yp._auto_1
theorem Yq {p:Prop} (h:p:=by first | exact .inl rfl | exact .inr rfl | assumption):p:=h
abbrev Hq:Lean.Syntax:=Yq._auto_1
section
namespace L2
open PySem PySem.Spec PyProof.Rows
abbrev Key:=Sum Int Str
def Pf:Key→Value→Bool
 | .inl k,v=>Value.isInt k v
 | .inr x,v=>Value.isStrOf x v
def Yr (w:World):Key→Int
 | .inl k=>hashInt k
 | .inr x=>hashStr w x
theorem gn:∀{k:Key} {v:Value},Pf k v=true→(∃i t,k=Sum.inl i∧v=Value.int i t)∨(∃x t,k=Sum.inr x∧v=Value.str x t)
 | .inl i,v,h=>by
  obtain⟨t,e⟩:=Value.isInt_shape (k:=i) (v:=v) h;exact .inl ⟨i,t,rfl,e⟩
 | .inr x,v,h=>by
  obtain⟨t,e⟩:=Value.isStrOf_shape (x:=x) (v:=v) h;exact .inr ⟨x,t,rfl,e⟩
theorem Su (a b:Int):decide ((Sum.inl a:Key)=Sum.inl b)=(a==b):=by
 by_cases e:a=b
 ·subst e;simp
 ·have h:¬(Sum.inl a:Key)=Sum.inl b:=fun q=>e (Sum.inl.inj q);rw[bS h];exact(tT.mpr e).symm
theorem Sw (a b:Str):decide ((Sum.inr a:Key)=Sum.inr b)=decide (a=b):=by
 by_cases e:a=b
 ·subst e;simp
 ·have h:¬(Sum.inr a:Key)=Sum.inr b:=fun q=>e (Sum.inr.inj q);rw[bS h,bS e]
theorem Sx (a:Int) (b:Str):decide ((Sum.inl a:Key)=Sum.inr b)=false:=bS (fun q=>nomatch q)
theorem Sy (a:Str) (b:Int):decide ((Sum.inr a:Key)=Sum.inl b)=false:=bS (fun q=>nomatch q)
def Pg (prog:Program) (w:World):PySem.KeyKind prog w Key where
 is:=Pf
 hash:=Yr w
 inj:=fun v a b ha hb=>by
  rcases gn ha with ⟨i,t,rfl,rfl⟩ | ⟨x,t,rfl,rfl⟩
  ·rcases gn hb with ⟨j,u,rfl,e⟩ | ⟨y,u,rfl,e⟩
   ·injection e with e1 _;rw[e1]
   ·exact nomatch e
  ·rcases gn hb with ⟨j,u,rfl,e⟩ | ⟨y,u,rfl,e⟩
   ·exact nomatch e
   ·injection e with e1 _;rw[e1]
 byValue:=fun k v h=>by
  rcases gn h with ⟨i,t,rfl,rfl⟩ | ⟨x,t,rfl,rfl⟩<;>rfl
 pyHash:=fun hv h=>by
  rcases gn hv with ⟨i,t,rfl,rfl⟩ | ⟨x,t,rfl,rfl⟩
  ·exact wpAny_pyHash_int h
  ·exact wpAny_pyHash_str h
 eqBool:=fun hu hv h=>by
  rcases gn hu with ⟨i,t,rfl,rfl⟩ | ⟨x,t,rfl,rfl⟩
  ·rcases gn hv with ⟨j,u,rfl,rfl⟩ | ⟨y,u,rfl,rfl⟩
   ·rw[Su] at h;exact wpAny_eqBool_int h
   ·rw[Sx] at h;exact SeqAt.EqAt.int_str i t y u _ _ _ _ h
  ·rcases gn hv with ⟨j,u,rfl,rfl⟩ | ⟨y,u,rfl,rfl⟩
   ·rw[Sy] at h;exact SeqAt.EqAt.str_int x t j u _ _ _ _ h
   ·rw[Sw] at h;exact wpAny_eqBool_str h
 «strs»:=fun k x t v h=>by
  rcases gn h with ⟨i,u,rfl,e⟩ | ⟨y,u,rfl,e⟩
  ·exact nomatch e
  ·injection e with e1 _
   subst e1;cases v<;>rfl
end L2
namespace L2
open PySem PySem.Spec PyProof.Rows
inductive V where
 | fV | bl (b:Bool) | int (i:Int) | str (x:Str) | tQ (b:Array UInt8) | Sz (b:UInt64) | ref (a:Addr) | ty (n:String)
 deriving DecidableEq
def RelV:V→Value→Prop
 | .fV,u=>u=Value.none
 | .bl b,u=>u=Value.bool b
 | .int i,u=>∃t,u=Value.int i t
 | .str x,u=>∃t,u=Value.str x t
 | .tQ b,u=>∃t,u=Value.bytes b t
 | .Sz b,u=>∃t,u=Value.float b t
 | .ref a,u=>u=Value.ref a
 | .ty n,u=>u=Value.type n
abbrev Vals:List V→List Value→Prop:=Paired RelV
theorem Vals.length {xs:List V} {us:List Value} (r:Vals xs us):xs.length=us.length:=Paired.length r
theorem Vals.get:∀{xs:List V} {us:List Value} {i:Nat} {x:V},Vals xs us→xs[i]?=some x→∃u,us[i]?=some u∧RelV x u
 | _,_,_,_,.nil,e=>by simp at e
 | _,_,0,_,.cons r _,e=>by simp at e;subst e;exact⟨_,rfl,r⟩
 | _,_,i+1,x,.cons _ t,e=>by
  obtain⟨u,h1,h2⟩:=Vals.get (i:=i) (x:=x) t (by simpa using e);exact⟨u,by simpa using h1,h2⟩
theorem Vals.set {x:V} {u:Value} (r:RelV x u):∀{xs:List V} {us:List Value} (i:Nat),Vals xs us→Vals (xs.set i x) (us.set i u)
 | _,_,_,.nil=>.nil
 | _,_,0,.cons _ t=>.cons r t
 | _,_,i+1,.cons q t=>.cons q (Vals.set r i t)
theorem Vals.append:∀{xs ys:List V} {us ws:List Value},Vals xs us→Vals ys ws→Vals (xs++ys) (us++ws)
 | _,_,_,_,.nil,s=>s
 | _,_,_,_,.cons r t,s=>.cons r (Vals.append t s)
theorem Vals.take:∀{xs:List V} {us:List Value} (n:Nat),Vals xs us→Vals (xs.take n) (us.take n)
 | _,_,0,_=>.nil
 | _,_,_+1,.nil=>.nil
 | _,_,n+1,.cons r t=>.cons r (Vals.take n t)
theorem Vals.drop:∀{xs:List V} {us:List Value} (n:Nat),Vals xs us→Vals (xs.drop n) (us.drop n)
 | _,_,0,r=>r
 | _,_,_+1,.nil=>.nil
 | _,_,n+1,.cons _ t=>Vals.drop n t
def uf:Option V→Option Value→Prop
 | some v,some u=>RelV v u
 | none,none=>True
 | _,_=>False
def KV {κ:Type}:List (κ×V)→List (κ×Value)→Prop:=Paired fun (p:κ×V) (q:κ×Value)=>p.1=q.1∧RelV p.2 q.2
inductive HO where
 | lst (xs:List V)
 | tup (xs:List V)
 | dK (Hr:List (Key×V))
 | set (S:Int→Bool) (n:Nat)
 | ins (C dx:Addr) (fs:List (Str×V))
 | own (x:Addr)
 | xd (fs:List (Str×V))
 | met (f x:Addr)
 | VZ (lo hi:Int)
 | oK (o:Obj) (u:HO)
 | Kf (ps:Array Value)
 | ext (φ:Heap→Prop)
abbrev Hp:=Addr→Option HO
def upd (H:Hp) (a:Addr) (o:HO):Hp:=fun b=>if b=a then some o else H b
theorem aL {H:Hp} {a:Addr} {o:HO}:upd H a o a=some o:=by unfold upd;rw[ao rfl]
theorem b7 {H:Hp} {a b:Addr} {o:HO} (h:b≠a):upd H a o b=H b:=by unfold upd;rw[ag h]
theorem Ph {H:Hp} {a:Addr} {o u:HO}:upd (upd H a o) a u=upd H a u:=by
 funext b;unfold upd;split<;>rfl
theorem FO {H:Hp} {a b:Addr} {o u:HO} (h:H a=some o) (h':H b=some u) (d:o≠u):a≠b:=by
 intro e;subst e;rw[h] at h';exact d (bM h')
theorem dc {H:Hp} {a b:Addr} {o:HO} (h:H a=some o) (h':H b=none):a≠b:=by
 intro e;subst e;rw[h] at h';cases h'
section
variable (P:Program) (w:World)
def g5 (H:Hp) (h:Heap) (a:Addr):HO→Prop
 | .lst xs=>xs.length≤sizeLine∧∃(bq:List Value) (n:Nat),Vals xs bq∧h.get? a=some { cls:=.type "list",data:=.seq bq.toArray n }
 | .tup xs=>xs.length≤sizeLine∧∃bq:List Value,Vals xs bq∧IsTup h a bq.toArray
 | .dK Hr=>Hr.length≤sizeLine∧(a==sysModules)=false∧∃vs,KV Hr vs∧h.DictOf (Pg P w) a vs
 | .set S n=>h.SetOf (intKind P w) a S n
 | .ins C dx fs=>H dx=some (.own a)∧fs.length≤1000∧dx≠a∧h.get? a=some (PySem.W.instObj C dx) ∧
  ∃mA,h.Ns1 dx mA∧(∀f,uf (fs.lookup f) (mA f))∧PySem.Within mA (fs.map (·.1))
 | .own _=>∃o,h.get? a=some o
 | .xd fs=>∃mA,h.Ns1 a mA∧∀f,uf (fs.lookup f) (mA f)
 | .VZ lo hi=>∃t u v,h.get? a=some { cls:=.type "range",data:=.fields #[.int lo t,.int hi u,.int 1 v] }
 | .oK o u=>h.get? a=some o∧g5 H h a u
 | .Kf ps=>h.get? a=some { cls:=.none,data:=.fields ps }
 | .met f x=>h.get? a=some (PySem.W.methodObj (.ref f) (.ref x))
 | .ext φ=>φ h∧(∃o,h.get? a=some o)∧∀h1 h2:Heap,φ h1→(∀o,h1.get? a=some o→h2.get? a=some o)→φ h2
def jv (H:Hp) (h:Heap):Prop:=∀a o,H a=some o→g5 P w H h a o
end
section
variable {P:Program} {w:World} {H H':Hp} {h h':Heap} {a:Addr} {o:HO}
theorem g5.lt (x:g5 P w H h a o):a<h.objs.size:=by
 cases o with
 | lst xs=>obtain⟨_,_,_,_,e⟩:=x;exact Heap.lt_size e
 | tup xs=>obtain⟨_,_,_,p⟩:=x;exact p.lt
 | dK Hr=>obtain⟨_,_,_,_,o,_,_,e,_⟩:=x;exact Heap.lt_size e
 | set S n=>obtain⟨o,_,_,_,e,_⟩:=x;exact Heap.lt_size e
 | ins C dx fs=>obtain⟨_,_,_,e,_⟩:=x;exact Heap.lt_size e
 | own y=>obtain⟨_,e⟩:=x;exact Heap.lt_size e
 | xd fs=>obtain⟨_,⟨_,_,_,e,_⟩,_⟩:=x;exact Heap.lt_size e
 | VZ lo hi=>obtain⟨_,_,_,e⟩:=x;exact Heap.lt_size e
 | oK ob u=>obtain⟨e,_⟩:=x;exact Heap.lt_size e
 | Kf ps=>exact Heap.lt_size (show h.get? a=some _ from x)
 | met f y=>exact Heap.lt_size (show h.get? a=some _ from x)
 | ext φ=>obtain⟨_,⟨_,e⟩,_⟩:=x;exact Heap.lt_size e
theorem g5.yE (x:g5 P w H h a o) (k:∀b u,(b=a∨H b=some (.own a))→h.get? b=some u→h'.get? b=some u)
  (ho:∀b,H b=some (.own a)→H' b=some (.own a)) (ht:∀b xs,H b=some (.tup xs)→H' b=some (.tup xs)):g5 P w H' h' a o:=by
 induction o with
 | lst xs=>obtain⟨z,bq,n,r,e⟩:=x;exact⟨z,bq,n,r,k _ _ (.inl rfl) e⟩
 | tup xs=>obtain⟨z,bq,r,ob,e,c⟩:=x;exact⟨z,bq,r,ob,k _ _ (.inl rfl) e,c⟩
 | dK Hr=>obtain⟨z,y,vs,r,ob,es,ep,e,c⟩:=x;exact⟨z,y,vs,r,ob,es,ep,k _ _ (.inl rfl) e,c⟩
 | set S n=>obtain⟨ob,es,ep,t,e,c⟩:=x;exact⟨ob,es,ep,t,k _ _ (.inl rfl) e,c⟩
 | ins C dx fs =>
  obtain⟨d,z,ne,e,mA,⟨od,es,ep,e2,c⟩,r⟩:=x;exact⟨ho _ d,z,ne,k _ _ (.inl rfl) e,mA,⟨od,es,ep,k _ _ (.inr d) e2,c⟩,r⟩
 | own y=>obtain⟨ob,e⟩:=x;exact⟨ob,k _ _ (.inl rfl) e⟩
 | xd fs=>obtain⟨mA,⟨od,es,ep,e,c⟩,r⟩:=x;exact⟨mA,⟨od,es,ep,k _ _ (.inl rfl) e,c⟩,r⟩
 | VZ lo hi=>obtain⟨t,u,v,e⟩:=x;exact⟨t,u,v,k _ _ (.inl rfl) e⟩
 | oK ob u ih=>obtain⟨e,q⟩:=x;exact⟨k _ _ (.inl rfl) e,ih q⟩
 | Kf ps =>
  have e:h.get? a=some { cls:=.none,data:=.fields ps }:=x;show h'.get? a=some { cls:=.none,data:=.fields ps };exact k a _ (.inl rfl) e
 | met f y =>
  have e:h.get? a=some (PySem.W.methodObj (.ref f) (.ref y)):=x;show h'.get? a=some (PySem.W.methodObj (.ref f) (.ref y));exact k a _ (.inl rfl) e
 | ext φ=>obtain⟨p,⟨o,e⟩,st⟩:=x;exact⟨st _ _ p fun o q=>k _ _ (.inl rfl) q,⟨o,k _ _ (.inl rfl) e⟩,st⟩
theorem jv.lt (x:jv P w H h) (e:H a=some o):a<h.objs.size:=(x a o e).lt
theorem jv.fresh (x:jv P w H h) (e:h.objs.size≤a):H a=none:=by
 cases q:H a with
 | none=>rfl
 | some u=>exact absurd (cg (x.lt q) e) (i8 _)
theorem jv.kept (x:jv P w H h) (k:∀b u,h.get? b=some u→h'.get? b=some u):jv P w H h':=fun a o e =>
 (x a o e).yE (fun b u _ q=>k b u q) (fun _ q=>q) fun _ _ q=>q
theorem jv.laid (x:jv P w H h) (k:∀b u,h.get? b=some u→h'.get? b=some u) (hp:h.objs.size≤a) (new:g5 P w (upd H a o) h' a o):jv P w (upd H a o) h':=fun b u e=>by
 have hn:=x.fresh hp;by_cases hb:b=a
 ·subst hb;rw[aL] at e;cases e;exact new
 ·rw[b7 hb] at e;exact(x b u e).yE (fun c v _ q=>k c v q) (fun c q=>by rw[b7 (dc q hn)];exact q) fun c xs q=>by rw[b7 (dc q hn)];exact q
end
def Rd (H:Hp) (a:Addr) (u:HO):Prop:=H a=some u∨∃o,H a=some (.oK o u)
theorem Rd.ok {P:Program} {w:World} {H:Hp} {h:Heap} {a:Addr} {u:HO} (r:Rd H a u) (x:jv P w H h):g5 P w H h a u:=by
 rcases r with r | ⟨o,r⟩
 ·exact x a u r
 ·obtain⟨_,q⟩:=x a _ r;exact q
def SA:Option HO→Prop
 | some (.lst _)=>True
 | some (.dK _)=>True
 | some (.set _ _)=>True
 | some (.ins _ _ _)=>True
 | some (.ext _)=>True
 | _=>False
section
variable {P:Program} {w:World} {H:Hp} {h h':Heap} {x e:Addr} {o':HO}
theorem jv.write (ok:jv P w H h) (mu:SA (H x)) (he:e=x∨H e=some (.own x)) (k:∀b u,b≠e→h.get? b=some u→h'.get? b=some u) (Ng:∃u,h'.get? e=some u)
  (new:g5 P w (upd H x o') h' x o'):jv P w (upd H x o') h':=fun b u q=>by
 have Vg:∀c y,H c=some (.own y)→c≠x:=fun c y r z=>by subst z;rw[r] at mu;exact mu
 have Yt:∀c xs,H c=some (.tup xs)→c≠x:=fun c xs r z=>by subst z;rw[r] at mu;exact mu
 by_cases hb:b=x
 ·subst hb;rw[aL] at q;cases q;exact new
 ·rw[b7 hb] at q;by_cases Kg:b=e
  ·have q':H b=some (.own x):=by
    rcases he with z | z
    ·exact absurd (Kg.trans z) hb
    ·rw[Kg];exact z
   rw[q] at q';cases q';obtain⟨v,hv⟩:=Ng;exact⟨v,by rw[Kg];exact hv⟩
  ·refine(ok b u q).yE (fun c v hc r=>k c v ?_ r) (fun c r=>by rw[b7 (Vg c b r)];exact r) fun c xs r=>by rw[b7 (Yt c xs r)];exact r
   rcases hc with rfl | hc
   ·exact Kg
   ·rintro rfl;rcases he with z | z
    ·exact Vg c b hc z
    ·rw[hc] at z;cases z;exact hb rfl
end
structure Un (fs ex:List Addr) (H H':Hp) (h h':Heap):Prop where
 keep:∀b o,h.get? b=some o→H b=none→b∉fs→b∉ex→h'.get? b=some o
 slot:∀b o,h.get? b=some o→H b=none→b∈fs→b∉ex→∃sl,h'.get? b=some { o with slots:=sl }
 free:∀b o,h.get? b=some o→H b=none→b∉ex→H' b=none
 there:∀b o,h.get? b=some o→b∉ex→∃o',h'.get? b=some o'
 vD:∀b xs,H b=some (.tup xs)→H' b=some (.tup xs)
 ug:∀b o u,H b=some (.oK o u)→H' b=some (.oK o u)
 vE:∀b ps,H b=some (.Kf ps)→∃more,H' b=some (.Kf (ps++more))
section
variable {fs fs' ex ex':List Addr} {H H1 H2:Hp} {h h1 h2 h':Heap} {a x e:Addr} {o:HO}
theorem Un.any (u:Un fs ex H H1 h h1) {b:Addr} {ob:Obj} (q:h.get? b=some ob) (n:H b=none) (hx:b∉ex):∃sl,h1.get? b=some { ob with slots:=sl }:=by
 by_cases hb:b∈fs
 ·exact u.slot b ob q n hb hx
 ·exact⟨ob.slots,u.keep b ob q n hb hx⟩
theorem Un.kept (k:∀b u,h.get? b=some u→h'.get? b=some u):Un fs ex H H h h' :=
 ⟨fun b ob q _ _ _=>k b ob q,fun b ob q _ _ _=>⟨ob.slots,k b ob q⟩,fun _ _ _ n _=>n,fun b ob q _=>⟨ob,k b ob q⟩,fun _ _ q=>q,fun _ _ _ q=>q,fun _ ps q=>⟨#[],by rw[q];simp⟩⟩
theorem Un.refl:Un fs ex H H h h:=Un.kept fun _ _ q=>q
theorem Un.laid (k:∀b u,h.get? b=some u→h'.get? b=some u) (hp:h.objs.size≤a) (hn:H a=none):Un fs ex H (upd H a o) h h' where
 keep:=fun b u q _ _ _=>k b u q
 slot:=fun b u q _ _ _=>⟨u.slots,k b u q⟩
 free:=fun b u q n _=>by rw[b7 (dJ (cg (Heap.lt_size q) hp))];exact n
 there:=fun b u q _=>⟨u,k b u q⟩
 vD:=fun b xs q=>by rw[b7 (dc q hn)];exact q
 ug:=fun b u xs q=>by rw[b7 (dc q hn)];exact q
 vE:=fun b ps q=>⟨#[],by rw[b7 (dc q hn),q];simp⟩
theorem Un.write (mu:SA (H x)) (he:e=x∨H e=some (.own x)) (k:∀b u,b≠e→h.get? b=some u→h'.get? b=some u) (Ng:∃u,h'.get? e=some u):Un fs ex H (upd H x o) h h':=by
 have hx:∀b,H b=none→b≠x:=fun b n z=>by subst z;rw[n] at mu;exact mu
 have hb:∀b,H b=none→b≠e:=fun b n z=>by
  subst z;rcases he with r | r
  ·exact hx b n r
  ·rw[n] at r;cases r
 have hm:∀b u,H b=some u→¬SA (some u)→b≠x:=fun b u q nm z=>by subst z;rw[q] at mu;exact nm mu
 refine⟨fun b u q n _ _=>k b u (hb b n) q,fun b u q n _ _=>⟨u.slots,k b u (hb b n) q⟩,fun b u q n _=>by rw[b7 (hx b n)];exact n,fun b u q _=>?_,
  fun b xs q=>by rw[b7 (hm b _ q fun z=>z)];exact q,fun b u xs q=>by rw[b7 (hm b _ q fun z=>z)];exact q,fun b ps q=>⟨#[],by rw[b7 (hm b _ q fun z=>z),q];simp⟩⟩
 by_cases Kg:b=e
 ·subst Kg;exact Ng
 ·exact⟨u,k b u Kg q⟩
end
def SD (h:Heap) (H:Hp):List Addr:=(List.range h.objs.size).filter fun a=>(H a).isSome
def vF (h:Heap) (H:Hp):Heap:=PySem.W.hideAll h (SD h H)
theorem Kh (h:Heap) (H:Hp):(vF h H).objs.size=h.objs.size:=PySem.W.hideAll_size _ _
theorem Nh {h:Heap} {H:Hp} {b:Addr} {o:Obj} (e:h.get? b=some o) (n:H b=none):(vF h H).get? b=some o :=
 PySem.W.hideAll_get _ e fun hm=>by
  have q:(H b).isSome=true:=(List.mem_filter.mp hm).2;rw[n] at q;simp at q
theorem Pj {h:Heap} {H:Hp} {b:Addr} {o:Obj} (e:(vF h H).get? b=some o):h.get? b=some o∧H b=none:=by
 have e':h.get? b=some o:=PySem.W.of_hideAll (SD h H) e;refine⟨e',?_⟩;cases q:H b with
 | none=>rfl
 | some x =>
  have hm:b∈SD h H:=List.mem_filter.mpr ⟨oO.mpr (Heap.lt_size e'),by simp[q]⟩;have z:(vF h H).get? b=none:=PySem.W.hideAll_none (SD h H) hm;rw[z] at e;cases e
end L2
namespace L2
open PySem PySem.Spec PyProof.Rows
structure Mod (K:aP) (mg:Str→Option Value) (base:Heap):Prop where
 vG:K.In base
 glob:base.Ns mainGlobals mg
 blt:∃mb,base.Ns builtinsNs mb∧∀x:Str,x≠"__name__"→mb x=bootBuiltins x
 nolimit:base.NoLimit
structure Cx where
 prog:Program
 w:World
 K:aP
 mg:Str→Option Value
 base:Heap
 A:Around
 N:List Str
 oM:Shared
 Pk:Hp
 env:Env
 outer:List Env
 stack:List Env
 ex:List Addr
 fn:Str→Bool
 calm:Bool
 pn:List (Addr×Obj)
 xe:Value→Shared→Prop
def nj (l:List Env):List Addr:=l.filterMap (·.frame)
abbrev Cx.fs (X:Cx):List Addr:=nj X.outer
def Pl (sc:Scope) (x:Str):Prop:=sc.names.lookup x=some .local∨sc.names.lookup x=some .cell∨sc.names.lookup x=some .free
def Loc (sc:Scope) (x:Str):Prop:=sc.names.lookup x=some .local∨sc.names.lookup x=some .cell
def Look (env:Env) (h:Heap) (m:Str→Option Value) (x:Str) (u:Value):Prop :=
 (env.kindOf x=some .local∧m x=some u)∨((env.kindOf x=some .cell∨env.kindOf x=some .free)∧∃c,env.cells.lookup x=some c∧h.IsCell c (some u))
structure Cx.Ok (X:Cx):Prop where
 mod:Mod X.K X.mg X.base
 kind:X.env.scope.kind=.function
 glob:X.env.globals=mainGlobals
 blt:X.env.builtins=builtinsNs
 above:X.oM.heap.objs.size≤X.env.locals
 inj:∀x y c,X.env.cells.lookup x=some c→X.env.cells.lookup y=some c→x=y
 has:∀x,(X.env.kindOf x=some .cell∨X.env.kindOf x=some .free)→∃c,X.env.cells.lookup x=some c
 Hs:∀x c,X.fn x=true→X.env.cells.lookup x=some c→X.oM.heap.objs.size≤c
 hd:X.calm=true→X.A.handled=none
 frames:X.A.frames=some X.stack
 Ki:X.stack=X.outer∨(X.stack=X.env::X.outer∧X.env.frame=some X.env.locals)
 AO:∀b∈X.ex,b≠X.env.locals∧∀x c,X.env.cells.lookup x=some c→c≠b
 bs:∀b o,X.base.get? b=some o→X.oM.heap.get? b=some o∧X.Pk b=none
 zt:X.base.objs.size≤X.oM.heap.objs.size
 yF:∀b o,X.base.get? b=some o→b∉X.ex
 yG:∀b∈X.ex,b∉X.fs
 mr:X.oM.heap.FunFrames X.base X.outer
 DM:∀b∈X.fs,X.Pk b=none
structure Inv (X:Cx) (pins:List (Addr×Obj)) (σ:List (Option V)) (H:Hp) (s:Shared):Prop where
 ok:X.Ok
 os:s.os=X.oM.os
 bare:AllBare s.gens
 base:Un X.fs X.ex X.Pk H X.oM.heap s.heap
 loc:∃m,s.heap.Ns X.env.locals m∧∀(i:Nat) (x:Str) (v:V),X.N[i]?=some x→σ[i]?=some (some v)→Pl X.env.scope x→∃u,RelV v u∧Look X.env s.heap m x u
 cell:∀x c,X.env.cells.lookup x=some c→∃v,s.heap.IsCell c v
 free:H X.env.locals=none
 ka:∀x c,X.env.cells.lookup x=some c→H c=none
 pin:∀p∈X.pn++pins,s.heap.get? p.1=some p.2∧H p.1=none∧p.1≠X.env.locals∧p.1∉X.fs∧∀v,p.2.data≠.cell v
 du:jv X.prog X.w H s.heap
 len:σ.length=X.N.length
section
variable {X:Cx} {pins:List (Addr×Obj)} {σ:List (Option V)} {H H':Hp} {s:Shared} {h':Heap}
theorem Cx.Ok.Yu (ok:X.Ok) {b:Addr} {o:Obj} (e:X.base.get? b=some o):b∉X.fs:=fun hb=>by
 have:=(ok.mr.mem hb).1;rw[e] at this;cases this
theorem Inv.bs (I:Inv X pins σ H s):∀b o,X.base.get? b=some o→s.heap.get? b=some o∧H b=none:=fun b o e =>
 ⟨I.base.keep b o (I.ok.bs b o e).1 (I.ok.bs b o e).2 (I.ok.Yu e) (I.ok.yF b o e),I.base.free b o (I.ok.bs b o e).1 (I.ok.bs b o e).2 (I.ok.yF b o e)⟩
theorem Inv.bk (I:Inv X pins σ H s):∀b o,X.base.get? b=some o→s.heap.get? b=some o:=fun b o e=>(I.bs b o e).1
theorem Inv.mod (I:Inv X pins σ H s):Mod X.K X.mg X.base:=I.ok.mod
theorem Inv.qO (I:Inv X pins σ H s):X.K.In s.heap:=I.ok.mod.vG.keeps I.bk
theorem Inv.lt (I:Inv X pins σ H s):X.env.locals<s.heap.objs.size:=let ⟨_,hn,_⟩:=I.loc;hn.lt
theorem Inv.sz (I:Inv X pins σ H s):X.oM.heap.objs.size≤s.heap.objs.size:=bZ I.ok.above (my I.lt)
theorem Inv.Yv (I:Inv X pins σ H s) {a:Addr} (h:s.heap.objs.size≤a):a∉X.fs:=fun hb=>by
 obtain⟨_,o,ho,_⟩:=I.ok.mr.mem hb;exact absurd (cg (Heap.lt_size ho) (bZ I.sz h)) (i8 _)
theorem Inv.Kj (I:Inv X pins σ H s):∀x c,X.env.cells.lookup x=some c→c≠X.env.locals:=fun x c e z=>by
 obtain⟨v,o,ho,hd⟩:=I.cell x c e;obtain⟨m,⟨o',es,ep,xK,rf,_⟩,_⟩:=I.loc;rw[z,xK] at ho;cases ho;rw[rf] at hd;cases hd
theorem Inv.mr (I:Inv X pins σ H s):s.heap.FunFrames X.base X.outer:=by
 have all:∀(l:List Env),(∀b∈nj l,b∈X.fs)→X.oM.heap.FunFrames X.base l→s.heap.FunFrames X.base l:=by
  intro l
  induction l with
  | nil=>intro _ _;trivial
  | cons env r ih =>
   intro hs hl;obtain⟨hk,⟨L,o,hf,hn,ho,hd⟩,hr⟩:=hl;have hL:L∈X.fs:=hs L (by unfold nj;rw[oP,hf];exact fD);obtain⟨sl,e⟩:=I.base.slot L o ho (I.ok.DM L hL) hL fun z=>I.ok.yG L z hL;exact⟨hk,⟨L,_,hf,hn,e,hd⟩,ih (fun b hb=>hs b (by unfold nj;rw[oP,hf];exact dw _ hb)) hr⟩
 exact all X.outer (fun _ hb=>hb) I.ok.mr
theorem Inv.stack (I:Inv X pins σ H s):s.heap.FunFrames X.base X.stack:=by
 rcases I.ok.Ki with e | ⟨e,hf⟩
 ·rw[e];exact I.mr
 ·rw[e];obtain⟨m,hn,_⟩:=I.loc;refine .cons (by rw[I.ok.kind];decide) hf hn ?_ I.mr;exact Heap.get?_none_of_le (bZ I.ok.zt I.ok.above)
theorem Inv.Aj (I:Inv X pins σ H s):∀b∈nj X.stack,b∈X.env.locals::X.fs:=fun b hb=>by
 rcases I.ok.Ki with e | ⟨e,hf⟩
 ·rw[e] at hb;exact dw _ hb
 ·rw[e] at hb;unfold nj at hb;rw[oP,hf] at hb;exact hb
theorem Inv.AQ (I:Inv X pins σ H s):∀b∈nj X.stack,H b=none:=fun b hb=>by
 rcases cO.mp (I.Aj b hb) with e | hb
 ·rw[e];exact I.free
 ·obtain⟨_,o,ho,_⟩:=I.ok.mr.mem hb;exact I.base.free b o ho (I.ok.DM b hb) fun z=>I.ok.yG b z hb
theorem Inv.step {g':Array GenState} {t':Nat} {d':Drawn} {ch:List Addr} (I:Inv X pins σ H s)
  (AR:∀b∈ch,(b∈X.ex∨X.oM.heap.objs.size≤b)∧b≠X.env.locals∧(∀x c,X.env.cells.lookup x=some c→c≠b)∧∀p∈X.pn++pins,p.1≠b)
  (keep:∀b o,b≠X.env.locals→b∉X.fs→b∉ch→s.heap.get? b=some o→H b=none→h'.get? b=some o)
  (slot:∀b o,b≠X.env.locals→b∈X.fs→b∉ch→s.heap.get? b=some o→H b=none→∃sl,h'.get? b=some { o with slots:=sl }) (free:∀b o,b∉ch→s.heap.get? b=some o→H b=none→H' b=none)
  (there:∀b o,b∉ch→s.heap.get? b=some o→∃o',h'.get? b=some o')
  (vD:∀b xs,H b=some (.tup xs)→H' b=some (.tup xs)) (ug:∀b o u,H b=some (.oK o u)→H' b=some (.oK o u)) (vE:∀b ps,H b=some (.Kf ps)→∃more,H' b=some (.Kf (ps++more)))
  (ns:∀m,s.heap.Ns X.env.locals m→h'.Ns X.env.locals m) (du:jv X.prog X.w H' h') (hg:AllBare g') :
  Inv X pins σ H' { s with heap:=h',gens:=g',drawn:=d',toks:=t' }:=by
 have Yw:∀b o,X.oM.heap.get? b=some o→b≠X.env.locals:=fun b o e=>dJ (cg (Heap.lt_size e) I.ok.above);have SE:∀b o,X.oM.heap.get? b=some o→b∉X.ex→b∉ch:=fun b o e hx hb=>by
  rcases (AR b hb).1 with z | z
  ·exact hx z
  ·exact absurd (cg (Heap.lt_size e) z) (i8 _)
 have cellK:∀x c,X.env.cells.lookup x=some c→∀v,s.heap.IsCell c v→h'.IsCell c v:=fun x c e v ⟨o,ho,hd⟩=>by
  have Pn:c∉ch:=fun z=>(AR c z).2.2.1 x c e rfl;by_cases hc:c∈X.fs
  ·obtain⟨sl,q⟩:=slot c o (I.Kj x c e) hc Pn ho (I.ka x c e);exact⟨_,q,hd⟩
  ·exact⟨o,keep c o (I.Kj x c e) hc Pn ho (I.ka x c e),hd⟩
 refine⟨I.ok,I.os,hg,⟨fun b o e n hb hx=>?_,fun b o e n hb hx=>?_,fun b o e n hx=>?_,fun b o e hx=>?_,fun b xs e=>vD b xs (I.base.vD b xs e),fun b o xs e=>ug b o xs (I.base.ug b o xs e),fun b ps e=>?_⟩,?_,fun x c e=>?_,?_,fun x c e=>?_,fun p hp=>?_,du,I.len⟩
 ·exact keep b o (Yw b o e) hb (SE b o e hx) (I.base.keep b o e n hb hx) (I.base.free b o e n hx)
 ·obtain⟨sl,e1⟩:=I.base.slot b o e n hb hx;obtain⟨sl',e2⟩:=slot b _ (Yw b o e) hb (SE b o e hx) e1 (I.base.free b o e n hx);exact⟨sl',e2⟩
 ·obtain⟨o',e1⟩:=I.base.there b o e hx;exact free b o' (SE b o e hx) e1 (I.base.free b o e n hx)
 ·obtain⟨o',e1⟩:=I.base.there b o e hx;exact there b o' (SE b o e hx) e1
 ·obtain⟨m1,e1⟩:=I.base.vE b ps e;obtain⟨m2,e2⟩:=vE b _ e1;exact⟨m1++m2,by rw[e2,Array.append_assoc]⟩
 ·obtain⟨m,hn,hl⟩:=I.loc;refine⟨m,ns m hn,fun i x v e1 e2 e3=>?_⟩;obtain⟨u,r,l⟩:=hl i x v e1 e2 e3;refine⟨u,r,?_⟩;rcases l with l | ⟨k,c,e,z⟩
  ·exact .inl l
  ·exact .inr ⟨k,c,e,cellK x c e _ z⟩
 ·obtain⟨v,z⟩:=I.cell x c e;exact⟨v,cellK x c e v z⟩
 ·obtain⟨m,⟨o,_,_,ho,_⟩,_⟩:=I.loc;exact free _ o (fun z=>(AR _ z).2.1 rfl) ho I.free
 ·obtain⟨v,o,ho,hd⟩:=I.cell x c e;exact free c o (fun z=>(AR c z).2.2.1 x c e rfl) ho (I.ka x c e)
 ·obtain⟨e,n,ne,nf,d⟩:=I.pin p hp;have Pn:p.1∉ch:=fun z=>(AR p.1 z).2.2.2 p hp rfl;exact⟨keep p.1 p.2 ne nf Pn e n,free p.1 p.2 Pn e n,ne,nf,d⟩
theorem Inv.un {t':Nat} (I:Inv X pins σ H s) (u:Un X.fs [] H H' s.heap h') (du:jv X.prog X.w H' h'):Inv X pins σ H' { s with heap:=h',toks:=t' }:=by
 obtain⟨m,⟨o,es,ep,ho,r⟩,_⟩:=id I.loc;obtain⟨sl,hL⟩:=u.any ho I.free (by simp);exact I.step (g':=s.gens) (d':=s.drawn) (ch:=[]) (fun _ z=>nomatch z) (fun b o _ hb _ e n=>u.keep b o e n hb (by simp)) (fun b o _ hb _ e n=>u.slot b o e n hb (by simp)) (fun b o _ e n=>u.free b o e n (by simp)) (fun b o _ e=>u.there b o e (by simp)) u.vD u.ug u.vE (fun m' hm=>by
  obtain⟨o',V0,V1,xK,r'⟩:=hm;rw[ho] at xK;cases xK;exact⟨_,V0,V1,hL,r'⟩) du I.bare
theorem Inv.call {g':Array GenState} {t':Nat} {d':Drawn} {ch:List Addr} (I:Inv X pins σ H s) (u:Un (nj X.stack) ch H H' s.heap h') (du:jv X.prog X.w H' h') (hg:AllBare g')
  (AR:∀b∈ch,(b∈X.ex∨X.oM.heap.objs.size≤b)∧b≠X.env.locals∧(∀x c,X.env.cells.lookup x=some c→c≠b)∧∀p∈X.pn++pins,p.1≠b) :
  Inv X pins σ H' { s with heap:=h',gens:=g',drawn:=d',toks:=t' }:=by
 obtain⟨m,⟨o,es,ep,ho,r⟩,_⟩:=id I.loc;obtain⟨sl,hL⟩:=u.any ho I.free fun z=>(AR _ z).2.1 rfl;exact I.step (ch:=ch) AR (fun b o hL hb hc e n=>u.keep b o e n (fun z=>(cO.mp (I.Aj b z)).elim hL hb) hc) (fun b o _ _ hc e n=>u.any e n hc) (fun b o hc e n=>u.free b o e n hc) (fun b o hc e=>u.there b o e hc) u.vD u.ug u.vE (fun m' hm=>by
  obtain⟨o',V0,V1,xK,r'⟩:=hm;rw[ho] at xK;cases xK;exact⟨_,V0,V1,hL,r'⟩) du hg
theorem Inv.turned {t':Nat} {it:Addr} (I:Inv X pins σ H s) (k:∀b o,b≠it→s.heap.get? b=some o→h'.get? b=some o) (hn:H it=none) (hL:it≠X.env.locals)
  (h1:it∈X.ex∨X.oM.heap.objs.size≤it) (h2:∀x c,X.env.cells.lookup x=some c→c≠it) (h3:∀p∈X.pn++pins,p.1≠it):Inv X pins σ H { s with heap:=h',toks:=t' }:=by
 have Ht:∀b u,H b=some u→b≠it:=fun b u e z=>by rw[z,hn] at e;cases e
 refine I.step (g':=s.gens) (d':=s.drawn) (ch:=[it]) (fun b hb=>?_) (fun b o _ _ hc e _=>k b o (fun z=>hc (by simp[z])) e) (fun b o _ _ hc e _=>⟨o.slots,k b o (fun z=>hc (by simp[z])) e⟩) (fun _ _ _ _ n=>n)
  (fun b o hc e=>⟨o,k b o (fun z=>hc (by simp[z])) e⟩) (fun _ _ e=>e) (fun _ _ _ e=>e) (fun b ps e=>⟨#[],by rw[e];simp⟩) (fun m hm=>?_) (fun b u e=>?_) I.bare
 ·have e:b=it:=by simpa using hb
  subst e;exact⟨h1,hL,h2,h3⟩
 ·obtain⟨o,es,ep,ho,r⟩:=hm;exact⟨o,es,ep,k _ o (j9 hL) ho,r⟩
 ·refine(I.du b u e).yE (fun c v hc q=>k c v ?_ q) (fun _ q=>q) fun _ _ q=>q;rcases hc with z | z
  ·rw[z];exact Ht b u e
  ·exact Ht c _ z
theorem Inv.tok (I:Inv X pins σ H s) (t:Nat):Inv X pins σ H { s with toks:=t }:=I.un (h':=s.heap) (t':=t) Un.refl I.du
theorem Inv.kept {t':Nat} (I:Inv X pins σ H s) (k:∀b u,s.heap.get? b=some u→h'.get? b=some u):Inv X pins σ H { s with heap:=h',toks:=t' }:=I.un (Un.kept k) (I.du.kept k)
theorem Inv.laid {a:Addr} {o:HO} {t':Nat} (I:Inv X pins σ H s) (k:∀b u,s.heap.get? b=some u→h'.get? b=some u) (hp:s.heap.objs.size≤a) (new:g5 X.prog X.w (upd H a o) h' a o) :
 Inv X pins σ (upd H a o) { s with heap:=h',toks:=t' }:=I.un (Un.laid k hp (I.du.fresh hp)) (I.du.laid k hp new)
theorem Inv.write {x e:Addr} {o:HO} {t':Nat} (I:Inv X pins σ H s) (mu:SA (H x)) (he:e=x∨H e=some (.own x)) (k:∀b u,b≠e→s.heap.get? b=some u→h'.get? b=some u) (Ng:∃u,h'.get? e=some u)
 (new:g5 X.prog X.w (upd H x o) h' x o):Inv X pins σ (upd H x o) { s with heap:=h',toks:=t' }:=I.un (Un.write mu he k Ng) (I.du.write mu he k Ng new)
theorem Inv.weak {σ':List (Option V)} (I:Inv X pins σ H s) (hl:σ'.length=σ.length) (w:∀(i:Nat) v,σ'[i]?=some (some v)→σ[i]?=some (some v)):Inv X pins σ' H s :=
 ⟨I.ok,I.os,I.bare,I.base,let ⟨m,hn,hl'⟩:=I.loc;⟨m,hn,fun i x v e1 e2 e3=>hl' i x v e1 (w i v e2) e3⟩,I.cell,I.free,I.ka,I.pin,I.du,hl.trans I.len⟩
theorem Inv.Hu {jK:List (Addr×Obj)} (I:Inv X pins σ H s) (h:∀p∈jK,s.heap.get? p.1=some p.2∧H p.1=none∧p.1≠X.env.locals∧p.1∉X.fs∧∀v,p.2.data≠.cell v):Inv X jK σ H s :=
 ⟨I.ok,I.os,I.bare,I.base,I.loc,I.cell,I.free,I.ka,fun p hp=>(pL.mp hp).elim (fun z=>I.pin p (yQ _ z)) (h p),I.du,I.len⟩
theorem xM {N:List Str} (hN:N.Nodup) {i j:Nat} {x:Str} (a:N[i]?=some x) (b:N[j]?=some x):i=j:=by
 obtain⟨h1,e1⟩:=hG.mp a;obtain⟨h2,e2⟩:=hG.mp b;exact(List.getElem_inj hN).mp (e1.trans e2.symm)
theorem AS {M:Model} {A:Around} {E:Value→Shared→Prop} {i:Nat} {x:Str} {v:V} {u:Value} {Q:Unit→Shared→Prop} (I:Inv X pins σ H s) (hN:X.N.Nodup) (hi:X.N[i]?=some x) (hx:Loc X.env.scope x) (r:RelV v u)
  (h:∀s',Inv X pins (σ.set i (some v)) H s'→(∃a,Heap.SameBut a s.heap s'.heap∧(a=X.env.locals∨X.env.cells.lookup x=some a))→Q () s') (hf:autoParam (X.fn x=true∨X.env.scope.names.lookup x=some .local) Hq):wpAny M A (storeName X.env x u) Q E s:=by
 obtain⟨m,hn,hl⟩:=id I.loc;have Yx:(X.env.scope.kind==.class||(X.env.scope.kind==.module&&X.env.locals != X.env.globals))=false:=by rw[I.ok.kind];rfl
 have hiσ:i<σ.length:=by rw[I.len];exact(hG.mp hi).1
 have Kj:=I.Kj;have tracked:∀{a:Addr} {h':Heap},(∃o,s.heap.get? a=some o∧H a=none)→Heap.SameBut a s.heap h'→jv X.prog X.w H h':=fun {a h'} ha hs b ob e=>by
  obtain⟨_,_,xN⟩:=ha;refine(I.du b ob e).yE (fun c w' hc q=>(hs.2 c ?_).trans q) (fun _ q=>q) fun _ _ q=>q;rintro rfl;rcases hc with rfl | hc
  ·rw[xN] at e;cases e
  ·rw[xN] at hc;cases hc
 rcases hx with hk | hk
 ·refine wpAny_storeName_local hk hn (fun h' Hw hs=>?_) Yx;obtain⟨oL,_,_,hoL,_⟩:=id hn;refine h _ ⟨I.ok,I.os,I.bare,⟨fun b o e n hb hx=>?_,fun b o e n hb hx=>?_,I.base.free,fun b o e hx=>?_,I.base.vD,I.base.ug,I.base.vE⟩,⟨_,Hw,fun j y v' e1 e2 e3=>?_⟩,fun y c e=>?_,I.free,I.ka,fun p hp=>?_,tracked ⟨oL,hoL,I.free⟩ hs,by simpa using I.len⟩ ⟨_,hs,.inl rfl⟩
  ·exact(hs.2 b (dJ (cg (Heap.lt_size e) I.ok.above))).trans (I.base.keep b o e n hb hx)
  ·obtain⟨sl,e1⟩:=I.base.slot b o e n hb hx;exact⟨sl,(hs.2 b (dJ (cg (Heap.lt_size e) I.ok.above))).trans e1⟩
  ·obtain⟨o',e1⟩:=I.base.there b o e hx;exact⟨o',(hs.2 b (dJ (cg (Heap.lt_size e) I.ok.above))).trans e1⟩
  ·by_cases hj:j=i
   ·subst hj;rw[hi] at e1;cases e1;rw[Eo hiσ] at e2;cases e2;exact⟨u,r,.inl ⟨hk,by simp⟩⟩
   ·rw[Er (j9 hj)] at e2;obtain⟨u',r',q⟩:=hl j y v' e1 e2 e3;refine⟨u',r',?_⟩;rcases q with ⟨k,e⟩ | ⟨k,c,e,z⟩
    ·refine .inl ⟨k,?_⟩;have:y≠x:=fun e=>hj (xM hN e1 (e ▸ hi));simp[this,e]
    ·exact .inr ⟨k,c,e,z.sameBut hs (Kj y c e)⟩
  ·obtain⟨w',z⟩:=I.cell y c e;exact⟨w',z.sameBut hs (Kj y c e)⟩
  ·obtain⟨e,n,ne,nf,d⟩:=I.pin p hp;exact⟨(hs.2 p.1 ne).trans e,n,ne,nf,d⟩
 ·have V2:X.fn x=true:=by
   rcases hf with z | z
   ·exact z
   ·rw[z] at hk;cases hk
  obtain⟨c,hc⟩:=I.ok.has x (.inl hk);obtain⟨w',z⟩:=I.cell x c hc;refine wpAny_storeName_cell I.ok.kind hk hc z (fun h' Yy hs=>?_);obtain⟨oc,Yz,YA⟩:=id z;refine h { s with heap:=h' } ⟨I.ok,I.os,I.bare,⟨fun b o e n hb hx=>?_,fun b o e n hb hx=>?_,I.base.free,fun b o e hx=>?_,I.base.vD,I.base.ug,I.base.vE⟩,⟨m,hn.sameBut hs (j9 (Kj x c hc)),fun j y v' e1 e2 e3=>?_⟩,fun y c' e=>?_,I.free,I.ka,fun p hp=>?_,tracked ⟨oc,Yz,I.ka x c hc⟩ hs,by simpa using I.len⟩ ⟨c,hs,.inr hc⟩
  ·exact(hs.2 b (dJ (cg (Heap.lt_size e) (I.ok.Hs x c V2 hc)))).trans (I.base.keep b o e n hb hx)
  ·obtain⟨sl,e1⟩:=I.base.slot b o e n hb hx;exact⟨sl,(hs.2 b (dJ (cg (Heap.lt_size e) (I.ok.Hs x c V2 hc)))).trans e1⟩
  ·obtain⟨o',e1⟩:=I.base.there b o e hx;exact⟨o',(hs.2 b (dJ (cg (Heap.lt_size e) (I.ok.Hs x c V2 hc)))).trans e1⟩
  ·by_cases hj:j=i
   ·subst hj;rw[hi] at e1;cases e1;rw[Eo hiσ] at e2;cases e2;exact⟨u,r,.inr ⟨.inl hk,c,hc,Yy⟩⟩
   ·rw[Er (j9 hj)] at e2;obtain⟨u',r',q⟩:=hl j y v' e1 e2 e3;refine⟨u',r',?_⟩;rcases q with q | ⟨k,c',e,z'⟩
    ·exact .inl q
    ·refine .inr ⟨k,c',e,z'.sameBut hs ?_⟩;rintro rfl;exact hj (xM hN e1 (I.ok.inj _ _ _ e hc ▸ hi))
  ·by_cases FP:c'=c
   ·subst FP;exact⟨_,Yy⟩
   ·obtain⟨w2,z2⟩:=I.cell y c' e;exact⟨w2,z2.sameBut hs FP⟩
  ·obtain⟨e,n,ne,nf,d⟩:=I.pin p hp;refine⟨(hs.2 p.1 ?_).trans e,n,ne,nf,d⟩;intro q;rw[q,Yz] at e;have q':oc=p.2:=bM e;exact d w' (by rw[←q'];exact YA)
theorem EL {M:Model} {A:Around} {E:Value→Shared→Prop} {i:Nat} {x:Str} {v:V} {u:Value} {Q:Unit→Shared→Prop} (I:Inv X pins σ H s) (hN:X.N.Nodup) (hi:X.N[i]?=some x) (hx:Loc X.env.scope x) (r:RelV v u)
  (h:∀s',Inv X pins (σ.set i (some v)) H s'→Q () s') (hf:autoParam (X.fn x=true∨X.env.scope.names.lookup x=some .local) Hq):wpAny M A (storeName X.env x u) Q E s :=
 AS I hN hi hx r (fun s' I' _=>h s' I') hf
theorem Inv.FQ {s':Shared} {ch:List Addr} (I:Inv X pins σ H s) (ho:s'.os=s.os) (u:Un (nj X.stack) ch H H' s.heap s'.heap) (du:jv X.prog X.w H' s'.heap) (hg:AllBare s'.gens)
  (AR:∀b∈ch,(b∈X.ex∨X.oM.heap.objs.size≤b)∧b≠X.env.locals∧(∀x c,X.env.cells.lookup x=some c→c≠b)∧∀p∈X.pn++pins,p.1≠b):Inv X pins σ H' s':=by
 obtain⟨h',g',d',t',o'⟩:=s';have e:o'=s.os:=ho;subst e;exact I.call (g':=g') (t':=t') (d':=d') u du hg AR
end
abbrev XK:=Value→Option Addr→Hp→Prop
abbrev St:=List (Option V)
abbrev VK:=V→Hp→Prop
abbrev TE:=St→Hp→VK→Prop
abbrev TT:=St→Hp→(Bool→Hp→Prop)→Prop
abbrev TA:=St→Hp→(List V→Hp→Prop)→Prop
structure Ends where
 nx:St→Hp→Prop
 rt:VK
 bk:St→Hp→Prop:=fun _ _=>False
 ct:St→Hp→Prop:=fun _ _=>False
abbrev TS:=Ends→St→Hp→Prop
def EP (X:Cx) (pins:List (Addr×Obj)) (σ:St) (Q:VK) (u:Value) (s':Shared):Prop:=∃v H',Inv X pins σ H' s'∧RelV v u∧Q v H'
def TP (X:Cx) (pins:List (Addr×Obj)) (σ:St) (Q:Bool→Hp→Prop) (b:Bool) (s':Shared):Prop:=∃H',Inv X pins σ H' s'∧Q b H'
def AP (X:Cx) (pins:List (Addr×Obj)) (σ:St) (Q:List V→Hp→Prop) (us:List Value) (s':Shared):Prop:=∃vs H',Inv X pins σ H' s'∧Vals vs us∧Q vs H'
def SP (X:Cx) (pins:List (Addr×Obj)) (D:Ends) (f:Flow) (s':Shared):Prop :=
 match f with
 | .next=>∃σ' H',Inv X pins σ' H' s'∧D.nx σ' H'
 | .brk=>∃σ' H',Inv X pins σ' H' s'∧D.bk σ' H'
 | .cont=>∃σ' H',Inv X pins σ' H' s'∧D.ct σ' H'
 | .ret u=>∃v σ' H',Inv X pins σ' H' s'∧RelV v u∧D.rt v H'
def PE (X:Cx) (e:Expr) (t:TE):Prop :=
 ∀(pins:List (Addr×Obj)) (s:Shared) (σ:St) (H:Hp) (Q:VK),Inv X pins σ H s→t σ H Q→wpAny (model X.prog X.w) X.A (eval e X.env) (EP X pins σ Q) X.xe s
def PT (X:Cx) (e:Expr) (t:TT):Prop :=
 ∀(pins:List (Addr×Obj)) (s:Shared) (σ:St) (H:Hp) (Q:Bool→Hp→Prop),Inv X pins σ H s→t σ H Q→wpAny (model X.prog X.w) X.A (isTrue e X.env (eval e X.env)) (TP X pins σ Q) X.xe s
def PW (X:Cx) (e:Expr) (t:TT):Prop :=
 ∀(whole:Sem Value) (pins:List (Addr×Obj)) (s:Shared) (σ:St) (H:Hp) (Q:Bool→Hp→Prop),Inv X pins σ H s→t σ H Q→wpAny (model X.prog X.w) X.A (isTrue e X.env whole) (TP X pins σ Q) X.xe s
theorem PW.pt {X:Cx} {e:Expr} {t:TT} (h:PW X e t):PT X e t:=h _
def PA (X:Cx) (es:List Expr) (t:TA):Prop :=
 ∀(pos:Pos) (pins:List (Addr×Obj)) (s:Shared) (σ:St) (H:Hp) (Q:List V→Hp→Prop),Inv X pins σ H s→t σ H Q→wpAny (model X.prog X.w) X.A (spliced (backTo pos (starEach es X.env))) (AP X pins σ Q) X.xe s
def PS (X:Cx) (st:Stmt) (t:TS):Prop :=
 ∀(pins:List (Addr×Obj)) (s:Shared) (σ:St) (H:Hp) (D:Ends),Inv X pins σ H s→t D σ H→wpAny (model X.prog X.w) X.A (exec st X.env) (SP X pins D) X.xe s
def qP (X:Cx) (st:List Stmt) (t:TS):Prop :=
 ∀(pins:List (Addr×Obj)) (s:Shared) (σ:St) (H:Hp) (D:Ends),Inv X pins σ H s→t D σ H→wpAny (model X.prog X.w) X.A (execs st X.env) (SP X pins D) X.xe s
theorem dA {α:Type} {t:Sem α} {Q Q':α→Shared→Prop} {M:Model} {A:Around} {E:Value→Shared→Prop} {s:Shared} (h:wpAny M A t Q E s) (hQ:∀a s,Q a s→Q' a s):wpAny M A t Q' E s:=wpAny_mono h hQ fun _ _ x=>x
end L2
namespace L2
open PySem PySem.Spec PyProof.Rows
section
variable {X:Cx}
def Vh (i:Nat):TE:=fun σ H Q=>∃v,σ[i]?=some (some v)∧Q v H
def tC (v:V):TE:=fun _ H Q=>Q v H
theorem SH {i:Nat} {x:Str} {pos:Pos} (hN:X.N[i]?=some x) (hv:Pl X.env.scope x) (hd:autoParam ((x==("__debug__":Str))=false) ig) (AU:autoParam ((x==("__classdict__":Str))=false) ig):PE X (.Name x pos) (Vh i):=by
 intro pins s σ H Q I h;obtain⟨v,e,h⟩:=h;obtain⟨m,hn,hl⟩:=I.loc;obtain⟨u,r,l⟩:=hl i x v hN e hv;have fin:EP X pins σ Q u s:=⟨v,H,I,r,h⟩;rcases l with ⟨hk,hm⟩ | ⟨hk,c,hc,Po⟩
 ·exact wpAny_Name (wpAny_loadName_local I.ok.kind hk hn hm fin) hd
 ·rcases hk with hk | hk
  ·exact wpAny_Name (wpAny_loadName_cell I.ok.kind hk hc Po fin) hd
  ·exact wpAny_Name (wpAny_loadName_free I.ok.kind hk hc Po fin AU) hd
theorem al {i j pos}:PE X (.Constant (.int i) j pos) (tC (.int i)):=fun _ _ _ H _ I h=>wpAny_Constant_int ⟨.int i,H,I.tok _,⟨_,rfl⟩,h⟩
theorem jL {b j pos}:PE X (.Constant (.bool b) j pos) (tC (.bl b)):=fun _ _ _ H _ I h=>Constant_bool ⟨.bl b,H,I,rfl,h⟩
theorem Mf {j pos}:PE X (.Constant .none j pos) (tC .fV):=fun _ _ _ H _ I h=>Constant_none ⟨.fV,H,I,rfl,h⟩
theorem nG {x j pos}:PE X (.Constant (.str x) j pos) (tC (.str x)):=fun _ _ _ H _ I h=>Calls.Constant_str ⟨.str x,H,I.tok _,⟨_,rfl⟩,h⟩
def Gl (X:Cx) (x:Str):Prop:=X.env.kindOf x=some .globalImplicit
theorem kc {E:Value→Shared→Prop} {pins:List (Addr×Obj)} {s:Shared} {σ:St} {H:Hp} {x:Str} {u:Value} {pos:Pos} {Q:Value→Shared→Prop} (I:Inv X pins σ H s) (hg:Gl X x) (hm:X.mg x=some u) (h:Q u s)
  (hd:autoParam ((x==("__debug__":Str))=false) ig):wpAny (model X.prog X.w) X.A (eval (.Name x pos) X.env) Q E s :=
 Calls.Name_function_global I.ok.kind hg (Calls.loadGlobal_global (by rw[I.ok.glob];exact I.mod.glob.keeps I.bk) hm h) hd
theorem sI {E:Value→Shared→Prop} {pins:List (Addr×Obj)} {s:Shared} {σ:St} {H:Hp} {x:Str} {u:Value} {pos:Pos} {Q:Value→Shared→Prop} (I:Inv X pins σ H s) (hg:Gl X x) (hm:X.mg x=none) (hv:bootBuiltins x=some u) (h:Q u s)
  (hn:autoParam (x≠"__name__") ig) (hd:autoParam ((x==("__debug__":Str))=false) ig):wpAny (model X.prog X.w) X.A (eval (.Name x pos) X.env) Q E s:=by
 obtain⟨mb,h1,h2⟩:=I.mod.blt;exact Calls.Name_function_global I.ok.kind hg (Calls.loadGlobal_builtin (by rw[I.ok.glob];exact I.mod.glob.keeps I.bk) hm (by rw[I.ok.blt];exact h1.keeps I.bk) ((h2 x hn).trans hv) h) hd
theorem Pp {x:Str} {v:V} {u:Value} {pos:Pos} (hg:Gl X x) (hm:X.mg x=some u) (r:RelV v u) (hd:autoParam ((x==("__debug__":Str))=false) ig):PE X (.Name x pos) (tC v) :=
 fun _ _ _ H _ I h=>kc I hg hm ⟨v,H,I,r,h⟩ hd
variable {a b:Expr} {ta tb:TE} {pos:Pos}
def tB (t:TE):TT:=fun σ H Q=>t σ H fun x H1=>∃c,x=.bl c∧Q c H1
theorem aQ {e:Expr} {t:TE} (h:PE X e t) (he:autoParam (∀whole,isTrue e X.env whole=(do let v ←whole;standAt e.pos;holding [v] (truthy v))) Ho):PT X e (tB t):=by
 intro pins s σ H Q I hw;refine isTrue_plain (dA (h pins s σ H _ I hw) fun v s1 ⟨x,H1,I1,r1,q1⟩=>?_) (he _);obtain⟨d,rfl,q⟩:=q1;cases r1;exact wpAny_truthy_bool ⟨H1,I1,q⟩
variable {tA SI:TT} {rest:List Expr}
def YB (t u:TT):TT:=fun σ H Q=>t σ H fun c H1=>if c=true then u σ H1 Q else Q false H1
def tOr (t u:TT):TT:=fun σ H Q=>t σ H fun c H1=>if c=true then Q true H1 else u σ H1 Q
def YC (t:TT):TT:=fun σ H Q=>t σ H fun c H1=>Q (!c) H1
theorem ke (ha:PT X a tA):PW X (.BoolOp .And [a] pos) tA:=by
 intro wh pins s σ H Q I h;refine isTrue_and (dA (ha pins s σ H Q I h) fun c s1 e=>?_);cases c with
 | true=>exact isTrue_and_nil e
 | false=>exact e
theorem dR (ha:PT X a tA):PW X (.BoolOp .Or [a] pos) tA:=by
 intro wh pins s σ H Q I h;refine isTrue_or (dA (ha pins s σ H Q I h) fun c s1 e=>?_);cases c with
 | false=>exact isTrue_or_nil e
 | true=>exact e
theorem kf (ha:PT X a tA) (hb:PW X (.BoolOp .And (b::rest) pos) SI):PW X (.BoolOp .And (a::b::rest) pos) (YB tA SI):=by
 intro wh pins s σ H Q I h;refine isTrue_and (dA (ha pins s σ H _ I h) fun c s1 ⟨H1,I1,q1⟩=>?_);cases c with
 | true=>exact hb wh pins s1 σ H1 Q I1 q1
 | false=>exact⟨H1,I1,q1⟩
theorem dk (ha:PT X a tA) (hb:PW X (.BoolOp .Or (b::rest) pos) SI):PW X (.BoolOp .Or (a::b::rest) pos) (tOr tA SI):=by
 intro wh pins s σ H Q I h;refine isTrue_or (dA (ha pins s σ H _ I h) fun c s1 ⟨H1,I1,q1⟩=>?_);cases c with
 | true=>exact⟨H1,I1,q1⟩
 | false=>exact hb wh pins s1 σ H1 Q I1 q1
theorem i0 (ha:PT X a tA):PT X (.UnaryOp .Not a pos) (YC tA):=by
 intro pins s σ H Q I h;exact isTrue_not (ha pins s σ H (fun c H1=>Q (!c) H1) I h)
def V3 (ta tb:TE):TE:=fun σ H Q=>ta σ H fun x H1=>∃c,x=.bl c∧if c=true then tb σ H1 Q else Q (.bl false) H1
def YE (ta tb:TE):TE:=fun σ H Q=>ta σ H fun x H1=>∃c,x=.bl c∧if c=true then Q (.bl true) H1 else tb σ H1 Q
def V4 (ta:TE):TE:=fun σ H Q=>ta σ H fun x H1=>∃c,x=.bl c∧Q (.bl (!c)) H1
theorem jj {op} {t:TE} (h:PE X a t):PE X (.BoolOp op [a] pos) t:=fun pins s σ H Q I hw=>BoolOp_one (h pins s σ H Q I hw)
theorem lP (ha:PE X a ta) (hb:PE X (.BoolOp .And (b::rest) pos) tb):PE X (.BoolOp .And (a::b::rest) pos) (V3 ta tb):=by
 intro pins s σ H Q I h;refine BoolOp_and (dA (ha pins s σ H _ I h) fun v s1 ⟨x,H1,I1,r1,q1⟩=>?_);obtain⟨c,rfl,q1⟩:=q1;cases r1;refine wpAny_truthy_bool ?_;cases c with
 | true=>exact hb pins s1 σ H1 Q I1 q1
 | false=>exact⟨.bl false,H1,I1,rfl,q1⟩
theorem AV (ha:PE X a ta) (hb:PE X (.BoolOp .Or (b::rest) pos) tb):PE X (.BoolOp .Or (a::b::rest) pos) (YE ta tb):=by
 intro pins s σ H Q I h;refine BoolOp_or (dA (ha pins s σ H _ I h) fun v s1 ⟨x,H1,I1,r1,q1⟩=>?_);obtain⟨c,rfl,q1⟩:=q1;cases r1;refine wpAny_truthy_bool ?_;cases c with
 | false=>exact hb pins s1 σ H1 Q I1 q1
 | true=>exact⟨.bl true,H1,I1,rfl,q1⟩
theorem pQ (ha:PE X a ta):PE X (.UnaryOp .Not a pos) (V4 ta):=by
 intro pins s σ H Q I h;refine UnaryOp_ (dA (ha pins s σ H _ I h) fun v s1 ⟨x,H1,I1,r1,q1⟩=>?_);obtain⟨c,rfl,q1⟩:=q1;cases r1;exact not_of (wpAny_truthy_bool ⟨.bl (!c),H1,I1,rfl,q1⟩)
def tIf (t:TT) (ta tb:TE):TE:=fun σ H Q=>t σ H fun c H1=>if c=true then ta σ H1 Q else tb σ H1 Q
theorem b9 {c:Expr} (hc:PT X c tA) (ha:PE X a ta) (hb:PE X b tb):PE X (.IfExp c a b pos) (tIf tA ta tb):=by
 intro pins s σ H Q I h;refine wpAny_IfExp (dA (hc pins s σ H _ I h) fun d s1 ⟨H1,I1,q1⟩=>?_);cases d with
 | true=>exact ha pins s1 σ H1 Q I1 q1
 | false=>exact hb pins s1 σ H1 Q I1 q1
end
end L2
namespace L2
open PySem PySem.Spec PyProof.Rows
def bU (K:aP) (H:Hp) (a:Addr) (xs:List V):Prop :=
 Rd H a (.lst xs) ∨
  ∃(o:Obj) (bq:Array Value) (n:Nat),K.lookup a=some o∧o.cls=.type "list"∧o.dict=none∧o.data=.seq bq n∧bq.size≤sizeLine∧Vals xs bq.toList
def j5 (K:aP) (H:Hp) (a:Addr) (xs:List V):Prop :=
 Rd H a (.tup xs) ∨
  ∃(o:Obj) (bq:Array Value) (n:Nat),K.lookup a=some o∧o.cls=.type "tuple"∧o.data=.seq bq n∧bq.size≤sizeLine∧Vals xs bq.toList
def YF:Value→Option V
 | .none=>some .fV
 | .bool b=>some (.bl b)
 | .int i _=>some (.int i)
 | .str x _=>some (.str x)
 | .bytes b _=>some (.tQ b)
 | .float b _=>some (.Sz b)
 | .ref a=>some (.ref a)
 | .type n=>some (.ty n)
 | _=>none
theorem RelV.abs {x:V} {u:Value} (r:RelV x u):YF u=some x:=by
 cases x with
 | fV=>cases r;rfl
 | bl _=>cases r;rfl
 | int _=>obtain⟨t,rfl⟩:=r;rfl
 | str _=>obtain⟨t,rfl⟩:=r;rfl
 | tQ _=>obtain⟨t,rfl⟩:=r;rfl
 | Sz _=>obtain⟨t,rfl⟩:=r;rfl
 | ref _=>cases r;rfl
 | ty _=>cases r;rfl
theorem RelV.inj {x y:V} {u:Value} (r:RelV x u) (q:RelV y u):x=y:=bM (r.abs.symm.trans q.abs)
theorem Vals.inj:∀{xs ys:List V} {us:List Value},Vals xs us→Vals ys us→xs=ys
 | _,_,_,.nil,.nil=>rfl
 | _,_,_,.cons r t,.cons r' t'=>by rw[r.inj r',Vals.inj t t']
section
variable {X:Cx} {pins:List (Addr×Obj)} {σ:St} {H:Hp} {s:Shared} {a:Addr} {xs ys:List V}
theorem bU.of {K:aP} (h:H a=some (.lst xs)):bU K H a xs:=.inl (.inl h)
theorem j5.of {K:aP} (h:H a=some (.tup xs)):j5 K H a xs:=.inl (.inl h)
theorem Inv.list (I:Inv X pins σ H s) (h:bU X.K H a xs):∃bq:List Value,Vals xs bq∧PlainL s.heap a bq.toArray∧xs.length≤sizeLine:=by
 rcases h with h | ⟨o,bq,n,hk,hc,hd,hs,hz,r⟩
 ·obtain⟨z,bq,n,r,e⟩:=h.ok I.du;exact⟨bq,r,⟨_,n,e,rfl,rfl,rfl⟩,z⟩
 ·refine⟨bq.toList,r,⟨o,n,I.qO a o hk,hc,hd,by simpa using hs⟩,?_⟩;have e:=r.length;simp only[yS] at e;omega
theorem Inv.tuple (I:Inv X pins σ H s) (h:j5 X.K H a xs):∃bq:List Value,Vals xs bq∧IsTup s.heap a bq.toArray∧xs.length≤sizeLine:=by
 rcases h with h | ⟨o,bq,n,hk,hc,hs,hz,r⟩
 ·obtain⟨z,bq,r,p⟩:=h.ok I.du;exact⟨bq,r,p,z⟩
 ·refine⟨bq.toList,r,⟨o,I.qO a o hk,hc,n,by simpa using hs⟩,?_⟩;have e:=r.length;simp only[yS] at e;omega
theorem Inv.sJ (I:Inv X pins σ H s) (h:bU X.K H a xs) (h':bU X.K H a ys):xs=ys:=by
 obtain⟨bq,r,⟨o,n,e,_,_,d⟩,_⟩:=I.list h;obtain⟨nH,r',⟨o',n',e',_,_,d'⟩,_⟩:=I.list h';rw[e] at e';cases e';rw[d] at d';injection d' with d1 _
 have:bq=nH:=by simpa using a7 Array.toList d1
 subst this;exact r.inj r'
theorem Inv.Kl (I:Inv X pins σ H s) (h:j5 X.K H a xs) (h':j5 X.K H a ys):xs=ys:=by
 obtain⟨bq,r,⟨o,e,_,n,d⟩,_⟩:=I.tuple h;obtain⟨nH,r',⟨o',e',_,n',d'⟩,_⟩:=I.tuple h';rw[e] at e';cases e';rw[d] at d';injection d' with d1 _
 have:bq=nH:=by simpa using a7 Array.toList d1
 subst this;exact r.inj r'
end
abbrev Cx.um (X:Cx) (E:Value→Shared→Prop):Cx:={ X with xe:=E }
abbrev Cx.vI (X:Cx):Cx:=X.um fun _ _=>False
theorem Cx.Ok.um {X:Cx} (ok:X.Ok) (E:Value→Shared→Prop):(X.um E).Ok :=
 ⟨ok.mod,ok.kind,ok.glob,ok.blt,ok.above,ok.inj,ok.has,ok.Hs,ok.hd,ok.frames,ok.Ki,ok.AO,ok.bs,ok.zt,ok.yF,ok.yG,ok.mr,ok.DM⟩
theorem Cx.Ok.nJ {X:Cx} {E:Value→Shared→Prop} (ok:(X.um E).Ok):X.Ok :=
 ⟨ok.mod,ok.kind,ok.glob,ok.blt,ok.above,ok.inj,ok.has,ok.Hs,ok.hd,ok.frames,ok.Ki,ok.AO,ok.bs,ok.zt,ok.yF,ok.yG,ok.mr,ok.DM⟩
section
variable {X:Cx} {pins:List (Addr×Obj)} {σ:St} {H:Hp} {s:Shared} {E:Value→Shared→Prop}
theorem Inv.um (I:Inv X pins σ H s) (E:Value→Shared→Prop):Inv (X.um E) pins σ H s:=⟨I.ok.um E,I.os,I.bare,I.base,I.loc,I.cell,I.free,I.ka,I.pin,I.du,I.len⟩
theorem Inv.nJ (I:Inv (X.um E) pins σ H s):Inv X pins σ H s:=⟨I.ok.nJ,I.os,I.bare,I.base,I.loc,I.cell,I.free,I.ka,I.pin,I.du,I.len⟩
theorem SP.nJ {D:Ends} {f:Flow} {s':Shared} (h:SP (X.um E) pins D f s'):SP X pins D f s':=by
 cases f with
 | next=>obtain⟨σ',H',I,q⟩:=h;exact⟨σ',H',I.nJ,q⟩
 | brk=>obtain⟨σ',H',I,q⟩:=h;exact⟨σ',H',I.nJ,q⟩
 | cont=>obtain⟨σ',H',I,q⟩:=h;exact⟨σ',H',I.nJ,q⟩
 | ret u=>obtain⟨v,σ',H',I,r,q⟩:=h;exact⟨v,σ',H',I.nJ,r,q⟩
theorem qP.vI {st:List Stmt} {t:TS} (h:qP X.vI st t):qP X st t:=fun pins s σ H D I hw =>
 wpAny_mono (h pins s σ H D (I.um _) hw) (fun _ _ q=>q.nJ) fun _ _ z=>False.elim z
end
section
variable {X:Cx} {st:Stmt} {rest:List Stmt} {t u:TS} {e:Expr} {te:TE} {pos:Pos}
def Km:TS:=fun D σ H=>D.nx σ H
def Ends.on (D:Ends) (u:TS):Ends:={ D with nx:=u D }
def Pq (t u:TS):TS:=fun D σ H=>t (D.on u) σ H
theorem aB:qP X [] Km:=fun _ _ σ H _ I h=>wpAny_execs_nil ⟨σ,H,I,h⟩
theorem ah (h1:PS X st t) (h2:qP X rest u):qP X (st::rest) (Pq t u):=by
 intro pins s σ H D I h;refine wpAny_execs_cons (dA (h1 pins s σ H (D.on u) I h) fun f s1 q=>?_);cases f with
 | next =>
  obtain⟨σ',H',I',q⟩:=q;exact h2 pins s1 σ' H' D I' q
 | ret v=>exact q
 | brk=>exact q
 | cont=>exact q
theorem aj (h1:PS X st t):qP X [st] t:=by
 intro pins s σ H D I h;refine wpAny_execs_cons (dA (h1 pins s σ H D I h) fun f s1 q=>?_);cases f with
 | next=>exact wpAny_execs_nil q
 | ret v=>exact q
 | brk=>exact q
 | cont=>exact q
theorem Inv.quiet {pins:List (Addr×Obj)} {σ:St} {H:Hp} {s:Shared} (I:Inv X pins σ H s):interactive X.env=false:=by simp[interactive,I.ok.kind]
def V5 (te:TE):TS:=fun D σ H=>te σ H fun _ H1=>D.nx σ H1
theorem mv (he:PE X e te) (hs:autoParam (swapsWith e none pos.line X.env=pure false) cW):PS X (.Expr e pos) (V5 te):=by
 intro pins s σ H D I h;exact wpAny_Expr_any (dA (he pins s σ H _ I h) fun v s1 ⟨x,H1,I1,r1,q1⟩=>⟨σ,H1,I1,q1⟩) I.quiet hs
def YG (te:TE):TS:=fun D σ H=>te σ H D.rt
theorem aq (he:PE X e te):PS X (.Return (some e) pos) (YG te):=by
 intro pins s σ H D I h;exact wpAny_Return_some (dA (he pins s σ H _ I h) fun v s1 ⟨x,H1,I1,r1,q1⟩=>⟨x,σ,H1,I1,r1,q1⟩)
def Pr (c:TT) (t u:TS):TS:=fun D σ H=>c σ H fun b H1=>if b=true then t D σ H1 else u D σ H1
theorem aS {c:Expr} {a b:List Stmt} {tc:TT} (hc:PT X c tc) (ha:qP X a t) (hb:qP X b u):PS X (.If c a b pos) (Pr tc t u):=by
 intro pins s σ H D I h;refine wpAny_If (dA (hc pins s σ H _ I h) fun d s1 ⟨H1,I1,q1⟩=>?_);cases d with
 | true=>exact ha pins s1 σ H1 D I1 q1
 | false=>exact hb pins s1 σ H1 D I1 q1
end
abbrev TG:=V→St→Hp→(St→Hp→Prop)→Prop
abbrev HA:=List V→St→Hp→(St→Hp→Prop)→Prop
def PG (X:Cx) (target:Expr) (t:TG):Prop :=
 ∀(pins:List (Addr×Obj)) (s:Shared) (σ:St) (H:Hp) (v:V) (u:Value) (Q:St→Hp→Prop),Inv X pins σ H s→RelV v u→t v σ H Q →
  wpAny (model X.prog X.w) X.A (assign target X.env u) (fun _ s'=>∃σ' H',Inv X pins σ' H' s'∧Q σ' H') X.xe s
def Pt (X:Cx) (ts:List Expr) (t:HA):Prop :=
 ∀(pins:List (Addr×Obj)) (s:Shared) (σ:St) (H:Hp) (vs:List V) (us:List Value) (Q:St→Hp→Prop),Inv X pins σ H s→Vals vs us→t vs σ H Q →
  wpAny (model X.prog X.w) X.A (assignInOrder ((assignEach ts X.env).map (·.2)) us) (fun _ s'=>∃σ' H',Inv X pins σ' H' s'∧Q σ' H') X.xe s
abbrev Pu:=V→V→V→Hp→(Hp→Prop)→Prop
def Vj (X:Cx) (t:Pu):Prop :=
 ∀(pins:List (Addr×Obj)) (s:Shared) (σ:St) (H:Hp) (o i v:V) (ov iv u:Value) (Q:Hp→Prop),Inv X pins σ H s→RelV o ov→RelV i iv→RelV v u→t o i v H Q →
  wpAny (model X.prog X.w) X.A (setItem ov iv u) (fun _ s'=>∃H',Inv X pins σ H' s'∧Q H') X.xe s
section
variable {X:Cx} {pos:Pos}
def AW (i:Nat):TG:=fun v σ H Q=>Q (σ.set i (some v)) H
theorem eM {i:Nat} {x:Str} (hN:X.N.Nodup) (hi:X.N[i]?=some x) (hx:Loc X.env.scope x) (hf:autoParam (X.fn x=true∨X.env.scope.names.lookup x=some .local) Hq):PG X (.Name x pos) (AW i):=by
 intro pins s σ H v u Q I r h;exact wpAny_assign_Name (EL I hN hi hx r (fun s' I'=>⟨_,H,I',h⟩) hf)
def YH:HA:=fun vs σ H Q=>vs=[]∧Q σ H
def V6 (t:TG) (u:HA):HA:=fun vs σ H Q=>∃v r,vs=v::r∧t v σ H fun σ' H'=>u r σ' H' Q
theorem rh:Pt X [] YH:=by
 intro pins s σ H vs us Q I r h;obtain⟨e,h⟩:=h;subst e;cases r;exact assignInOrder_nil ⟨σ,H,I,h⟩
theorem iT {e:Expr} {es:List Expr} {t:TG} {u:HA} (h1:PG X e t) (h2:Pt X es u)
  (hs:autoParam ((assignEach (e::es) X.env).map (·.2)=assign e X.env::(assignEach es X.env).map (·.2)) cW):Pt X (e::es) (V6 t u):=by
 intro pins s σ H vs us Q I r h;obtain⟨v,vr,e1,h⟩:=h;subst e1;cases r with
 | cons r rr =>
  rw[hs];refine assignInOrder_cons (dA (h1 pins s σ H _ _ _ I r h) fun _ s1 ⟨σ1,H1,I1,q1⟩=>?_);exact h2 pins s1 σ1 H1 _ _ Q I1 rr q1
def Vk (K:aP) (n:Nat) (t:HA):TG:=fun v σ H Q=>∃a xs,v=.ref a∧j5 K H a xs∧xs.length=n∧t xs σ H Q
theorem Am {es:List Expr} {k:Nat} {t:HA} {n:Nat} (hc:X.calm=true) (h:Pt X es t)
  (hn:autoParam ((assignEach es X.env).length=n) cW) (qQ:autoParam ((assignEach es X.env).findIdx? (·.1)=none) cW):PG X (.Tuple es k pos) (Vk X.K n t):=by
 intro pins s σ H v u Q I r hw;obtain⟨a,xs,e1,hq,hl,hw⟩:=hw;subst e1;cases r;obtain⟨bq,rv,ht,hz⟩:=I.tuple hq;refine assign_Tuple_tuple (I.ok.hd hc) ht (by simp[hn,←hl,rv.length]) qQ fun h' hx=>?_;have I1:Inv X pins σ H { s with heap:=h' }:=I.kept (t':=s.toks) fun b o e=>hx b o (dJ (Heap.lt_size e)) e;exact h pins _ σ H xs _ Q I1 (by simpa using rv) hw
def YI (to ti:TE) (t:Pu):TG:=fun v σ H Q=>to σ H fun o H1=>ti σ H1 fun i H2=>t o i v H2 fun H3=>Q σ H3
theorem Mg {o i:Expr} {to ti:TE} {t:Pu} (ho:PE X o to) (hi:PE X i ti) (hs:Vj X t)
  (ha:autoParam (∀v,assign (.Subscript o i pos) X.env v=(do
   let ov ←holding [v] (eval o X.env);let iv ←holding [v,ov] (eval i X.env)
   standAt pos
   holding [v,ov,iv] (setItem ov iv v)
   release [v,ov,iv] [])) Ho):PG X (.Subscript o i pos) (YI to ti t):=by
 intro pins s σ H v u Q I r h;rw[ha];refine wpAny_bind (wpAny_holding (dA (ho pins s σ H _ I h) fun ov s1 ⟨x,H1,I1,r1,q1⟩=>?_));refine wpAny_bind (wpAny_holding (dA (hi pins s1 σ H1 _ I1 q1) fun iv s2 ⟨y,H2,I2,r2,q2⟩=>?_));refine wpAny_bind (wpAny_standAt (wpAny_bind (wpAny_holding (dA (hs pins s2 σ H2 x y v ov iv u _ I2 r1 r2 r q2) fun _ s3 ⟨H3,I3,q3⟩=>?_))));exact wpAny_release ⟨σ,H3,I3,q3⟩
def Mh (te:TE) (g:TG):TS:=fun D σ H=>te σ H fun x H1=>g x σ H1 D.nx
theorem Mi {tg e:Expr} {te:TE} {g:TG} (he:PE X e te) (hg:PG X tg g) (hs:autoParam (swapsWithSole [tg] e pos.line X.env=pure false) cW) (hw:autoParam (swappedStores [tg] e X.env=pure none) cW)
  (h1:autoParam ((assignEach [tg] X.env).map (·.2)=[assign tg X.env]) cW):PS X (.Assign [tg] e pos) (Mh te g):=by
 intro pins s σ H D I h;refine wpAny_Assign_stores (dA (he pins s σ H _ I h) fun v s1 ⟨x,H1,I1,r1,q1⟩=>?_) hs hw;rw[h1];exact dA (hg pins s1 σ H1 x v _ I1 r1 q1) fun _ s2 q=>q
theorem SK {i:Nat} {x:Str} {e:Expr} {te:TE} {pos':Pos} (hN:X.N.Nodup) (hi:X.N[i]?=some x) (hx:Loc X.env.scope x) (he:PE X e te) (hs:autoParam (swapsWith e (some (.Name x pos')) pos.line X.env=pure false) cW) (hf:autoParam (X.fn x=true∨X.env.scope.names.lookup x=some .local) Hq) :
  PS X (.Assign [.Name x pos'] e pos) (Mh te (AW i)):=by
 intro pins s σ H D I h;refine wpAny_Assign_Name (dA (he pins s σ H _ I h) fun v s1 ⟨y,H1,I1,r1,q1⟩=>?_) hs;exact EL I1 hN hi hx r1 (fun s2 I2=>⟨_,H1,I2,q1⟩) hf
end
section
variable {X:Cx} {pos:Pos}
def Mj (c:TT) (tb:TS):TS:=fun D σ H=>∃W:Nat→St→Hp→Prop,(∃m,W m σ H)∧∀m σ H,W m σ H →
 c σ H fun b H1=>if b=true then ∃N:St→Hp→Prop,(∀σ' H',N σ' H'→∃m',m'<m∧W m' σ' H')∧tb { D with nx:=N,ct:=N,bk:=D.nx } σ H1 else D.nx σ H1
theorem jQ {c:Expr} {body:List Stmt} {tc:TT} {tb:TS} (hp:PassesOwn (model X.prog X.w) X.A X.env X.xe) (hc:PT X c tc) (hb:qP X body tb):PS X (.While c body [] pos) (Mj tc tb):=by
 intro pins s σ H D I h;obtain⟨W,⟨m0,w0⟩,turn⟩:=h;refine wpAny_While (codeAny_whileLoop (fun n s'=>∃σ' H',Inv X pins σ' H' s'∧W n σ' H') ?_ m0 ⟨σ,H,I,w0⟩);rintro n s1 ⟨σ1,H1,I1,w1⟩;refine wpAny_passesOwn hp (dA (hc pins s1 σ1 H1 _ I1 (turn n σ1 H1 w1)) fun b s2 ⟨H2,I2,q2⟩=>?_);cases b with
 | true =>
  obtain⟨N,hN,q2⟩:=q2;rw[ao rfl];refine wpAny_passesOwn hp (dA (hb pins s2 σ1 H2 _ I2 q2) fun f s3 q3=>?_);cases f with
  | next =>
   obtain⟨σ3,H3,I3,n3⟩:=q3;obtain⟨m',hm,w3⟩:=hN σ3 H3 n3;exact⟨m',hm,σ3,H3,I3,w3⟩
  | cont =>
   obtain⟨σ3,H3,I3,n3⟩:=q3;obtain⟨m',hm,w3⟩:=hN σ3 H3 n3;exact⟨m',hm,σ3,H3,I3,w3⟩
  | brk=>exact q3
  | ret v=>exact q3
 | false =>
  rw[ag dB];exact wpAny_execs_nil ⟨σ1,H2,I2,q2⟩
end
structure It where
 go:Nat→Hp→Prop
 Kn:Nat→Hp→V→Hp→Prop
 stop:Nat→Hp→Prop
def qE (X:Cx) (pins:List (Addr×Obj)) (H:Hp) (b:Addr):Prop :=
 H b=none∧b≠X.env.locals∧b∉X.fs∧(b∈X.ex∨X.oM.heap.objs.size≤b)∧(∀x c,X.env.cells.lookup x=some c→c≠b)∧∀p∈X.pn++pins,p.1≠b
theorem Inv.EM {X:Cx} {pins:List (Addr×Obj)} {σ:St} {H H':Hp} {s:Shared} {b:Addr} (I:Inv X pins σ H s) (hb:s.heap.objs.size≤b) (hn:H' b=none):qE X pins H' b:=by
 refine⟨hn,Nat.ne_of_gt (cg I.lt hb),I.Yv hb,.inr (bZ I.sz hb),fun x c e z=>?_,fun p hp z=>?_⟩
 ·obtain⟨v,q⟩:=I.cell x c e;exact absurd (cg q.lt (by rw[z];exact hb)) (i8 _)
 ·exact absurd (cg (Heap.lt_size (I.pin p hp).1) (by rw[z];exact hb)) (i8 _)
structure Turn (P:Program) (w:World) (K:aP) (tg:Expr) (J:It) (fp:List Addr) (it:Addr) (tn:Nat→Heap→Prop):Prop where
 mem:it∈fp
 obj:∀i h,tn i h→∀b∈fp,∃o,h.get? b=some o∧∀v,o.data≠.cell v
 keep:∀i h h',tn i h→(∀b∈fp,∀o,h.get? b=some o→h'.get? b=some o)→tn i h'
 item:∀(X:Cx),X.prog=P→X.w=w→X.K=K→X.calm=true→∀(i:Nat) (pins:List (Addr×Obj)) (s:Shared) (σ:St) (H:Hp) (E:Value→Shared→Prop),Inv X pins σ H s→(∀b∈fp,qE X pins H b)→tn i s.heap→J.go i H →
  wpAny (model P w) X.A (pyNext (.ref it)) (fun r s1=>∃u,r=some u ∧
   wpAny (model P w) X.A (letOwnedTupleGo tg (.ref it) u) (fun _ s2=>∃x H',Inv X pins σ H' s2∧RelV x u∧J.Kn i H x H'∧tn (i+1) s2.heap∧∀b∈fp,H' b=none) E s1) E s
 done:∀(X:Cx),X.prog=P→X.w=w→X.K=K→X.calm=true→∀(i:Nat) (pins:List (Addr×Obj)) (s:Shared) (σ:St) (H:Hp) (E:Value→Shared→Prop),Inv X pins σ H s→(∀b∈fp,qE X pins H b)→tn i s.heap→J.stop i H →
  wpAny (model P w) X.A (pyNext (.ref it)) (fun r s1=>r=none∧Inv X pins σ H s1) E s
 self:∀(A:Around) (i:Nat) (s:Shared) (Q:Value→Shared→Prop) (E:Value→Shared→Prop),tn i s.heap→Q (.ref it) s→wpAny (model P w) A (pyIter (.ref it)) Q E s
abbrev TI:=St→Hp→(It→Hp→Prop)→Prop
def V8 (X:Cx) (pins:List (Addr×Obj)) (σ:St) (tg:Expr) (R:It→Hp→Prop) (V9:Value) (s2:Shared):Prop :=
 ∃(it:Addr) (fp:List Addr) (tn:Nat→Heap→Prop) (J:It) (H':Hp),V9=.ref it∧Inv X pins σ H' s2∧Turn X.prog X.w X.K tg J fp it tn∧tn 0 s2.heap∧(∀b∈fp,qE X pins H' b)∧R J H'
def PI (X:Cx) (tg iter:Expr) (wi:TI):Prop :=
 ∀(pins:List (Addr×Obj)) (s:Shared) (σ:St) (H:Hp) (R:It→Hp→Prop),Inv X pins σ H s→wi σ H R →
  wpAny (model X.prog X.w) X.A (eval iter X.env) (fun v s1=>wpAny (model X.prog X.w) X.A (pyIter v) (V8 X pins σ tg R) X.xe s1) X.xe s
theorem AX {M:Model} {A:Around} {E:Value→Shared→Prop} {s:Shared} {tg:Expr} {it:Addr} {u:Value} {o:Obj} {n:String} {vs:Array Value} {Q:Unit→Shared→Prop} (ho:s.heap.get? it=some o) (hc:o.cls=.type n) (hd:o.data=.fields vs)
  (hn:["enumerate","zip","dict_itemiterator","dict_reverseitemiterator","odict_iterator","itertools.zip_longest","itertools.pairwise"].contains n=false) (hQ:Q () s):wpAny M A (letOwnedTupleGo tg (.ref it) u) Q E s:=by
 unfold letOwnedTupleGo;cases tg<;>first
  | exact wpAny_pure hQ
  | (cases u<;>first
   | exact wpAny_pure hQ
   | (refine wpAny_bind (wpAny_load ho ?_);rw[hc,hd];show wpAny M A (if (["enumerate","zip","dict_itemiterator","dict_reverseitemiterator","odict_iterator","itertools.zip_longest","itertools.pairwise"].contains n&&vs[0]?==some (rawInt _))=true then _ else _) Q E s;rw[ag (by intro h;rw[hn,ic] at h;cases h)];exact wpAny_pure hQ))
def YJ (K:aP) (a:Addr):It :=
 ⟨fun i H=>∃xs x,bU K H a xs∧xs[i]?=some x,fun i H x H'=>H'=H∧∀xs,bU K H a xs→xs[i]?=some x,fun i H=>∃xs,bU K H a xs∧xs.length≤i⟩
def Wa (lo:Int) (n:Nat):It:=⟨fun i _=>i<n,fun i H x H'=>H'=H∧x=.int (lo+i),fun i _=>n≤i⟩
theorem Ko {P:Program} {w:World} {K:aP} {tg:Expr} (a it:Addr):Turn P w K tg (YJ K a) [it] it (fun i h=>h.IsListIter it a i) where
 mem:=by simp
 obj:=fun i h st b hb=>by
  have e:b=it:=by simpa using hb
  subst e;obtain⟨o,e,c,d⟩:=st;exact⟨o,e,fun v z=>by rw[d] at z;cases z⟩
 keep:=fun i h h' st k=>st.at fun o e=>k it (by simp) o e
 item:=by
  intro X hP hw hK hc i pins s σ H E I hf st hg;subst hP hw hK;obtain⟨xs,x,hq,hx⟩:=hg;obtain⟨bq,rv,p,hz⟩:=I.list hq;obtain⟨u,hu,ru⟩:=rv.get hx;obtain⟨f0,f1,f2,f3,f4,f5⟩:=hf it (by simp);refine wpAny_pyNext_list_item st p.isList (x:=u) (by simpa using hu) fun h' qR sb=>?_;have I1:Inv X pins σ H { s with heap:=h' }:=I.turned (t':=s.toks) (fun b o hb e=>(sb.2 b hb).trans e) f0 f1 f3 f4 f5;obtain⟨o,e,c,d⟩:=id qR;exact⟨u,rfl,AX (s:={ s with heap:=h' }) e c d Ke ⟨x,H,I1,ru,⟨rfl,fun ys hy=>by rw[I.sJ hy hq];exact hx⟩,qR,fun b hb=>(hf b hb).1⟩⟩
 done:=by
  intro X hP hw hK hc i pins s σ H E I hf st hg;subst hP hw hK;obtain⟨xs,hq,hx⟩:=hg;obtain⟨bq,rv,p,hz⟩:=I.list hq;obtain⟨f0,f1,f2,f3,f4,f5⟩:=hf it (by simp);have hl:=rv.length;exact wpAny_pyNext_list_end (I.ok.hd hc) st p.isList (by simp;omega) fun h' eb=>⟨rfl,I.turned (t':=s.toks) (fun b o hb e=>eb b o hb e) f0 f1 f3 f4 f5⟩
 self:=fun _ _ _ _ _ st h=>wpAny_pyIter_listiter st h
theorem HC {P:Program} {w:World} {K:aP} {tg:Expr} (it:Addr) (lo:Int) (n:Nat):Turn P w K tg (Wa lo n) [it] it (fun i h=>IsRangeIter h it (lo+(i:Nat)*1) ((n:Int)-(i:Nat)) 1) where
 mem:=by simp
 obj:=fun i h st b hb=>by
  have e:b=it:=by simpa using hb
  subst e;exact⟨_,st,fun v z=>by
   have z':Data.fields _=Data.cell v:=z;cases z'⟩
 keep:=fun i h h' st k=>k it (by simp) _ st
 item:=by
  intro X hP hw hK hc i pins s σ H E I hf st hg;subst hP hw hK;obtain⟨f0,f1,f2,f3,f4,f5⟩:=hf it (by simp);have W:=Walks.range (prog:=X.prog) (w:=X.w) (I.ok.hd hc) it lo 1 n;refine W.item i s _ _ hg st fun v h' tk hv qR kk=>?_;obtain⟨t,rfl⟩:=hv;have I1:Inv X pins σ H { s with heap:=h',toks:=tk }:=I.turned (fun b o hb e=>kk b o (by simpa using hb) e) f0 f1 f3 f4 f5;refine⟨_,rfl,AX (s:={ s with heap:=h',toks:=tk }) (n:="range_iterator") qR rfl rfl Ke ⟨.int (lo+i),H,I1,⟨t,?_⟩,⟨rfl,rfl⟩,qR,fun b hb=>(hf b hb).1⟩⟩;rw[Int.mul_one]
 done:=by
  intro X hP hw hK hc i pins s σ H E I hf st hg;subst hP hw hK;obtain⟨f0,f1,f2,f3,f4,f5⟩:=hf it (by simp);exact wpAny_pyNext_range_end (I.ok.hd hc) st (by have:n≤i:=hg;omega) fun h' eb=>⟨rfl,I.turned (t':=s.toks) (fun b o hb e=>eb b o hb e) f0 f1 f3 f4 f5⟩
 self:=fun _ _ _ _ _ st h=>wpAny_pyIter_rangeiter st h
end L2
namespace L2
open PySem PySem.Spec PyProof.Rows
section
variable {X:Cx} {tg:Expr}
def Wb (K:aP) (tl:TE):TI:=fun σ H R=>tl σ H fun x H1=>∃a,x=.ref a∧(∃xs,bU K H1 a xs)∧R (YJ K a) H1
theorem oQ {l:Expr} {tl:TE} (hl:PE X l tl):PI X tg l (Wb X.K tl):=by
 intro pins s σ H R I h;refine dA (hl pins s σ H _ I h) fun v s1 ⟨x,H1,I1,r1,q1⟩=>?_;obtain⟨a,e,⟨xs,hq⟩,q⟩:=q1;subst e;cases r1;obtain⟨bq,rv,p,hz⟩:=I1.list hq;refine wpAny_pyIter_list p.isList ?_;refine⟨s1.heap.objs.size,[s1.heap.objs.size],_,_,H1,rfl,I1.kept (t':=s1.toks) fun b o e=>Heap.get?_push_of_some _ e,Ko a _,⟨_,Heap.get?_push_size _ rfl,rfl,rfl⟩,fun b hb=>?_,q⟩;have e:b=s1.heap.objs.size:=by simpa using hb
 subst e;exact I1.EM (bB _) (I1.du.fresh (bB _))
theorem Nk {pins:List (Addr×Obj)} {σ:St} {H:Hp} {s:Shared} {R:It→Hp→Prop} {E:Value→Shared→Prop} {lo hi:Int} {t u v:Tok} {tk:Nat} (I:Inv X pins σ H s) (h1:-(2^62)≤lo) (h2:lo<2^62) (h3:-(2^62)≤hi) (h4:hi<2^62)
  (q:R (Wa lo (hi-lo).toNat) H):wpAny (model X.prog X.w) X.A (pyIter (.ref s.heap.objs.size)) (V8 X pins σ tg R) E { s with heap:=s.heap.push { cls:=.type "range",data:=.fields #[.int lo t,.int hi u,.int 1 v] },toks:=tk }:=by
 refine wpAny_pyIter_range (IsRange.new ..) (small_one h1 h2 h3 h4) ?_;have I1:Inv X pins σ H { s with heap:=s.heap.push { cls:=.type "range",data:=.fields #[.int lo t,.int hi u,.int 1 v] },toks:=tk }:=I.kept fun b o e=>Heap.get?_push_of_some _ e;refine⟨(s.heap.push { cls:=.type "range",data:=.fields #[.int lo t,.int hi u,.int 1 v] }).objs.size,[(s.heap.push { cls:=.type "range",data:=.fields #[.int lo t,.int hi u,.int 1 v] }).objs.size],_,_,H,rfl,
  I1.kept (t':=tk) fun b o e=>Heap.get?_push_of_some _ e,HC _ lo (hi-lo).toNat,?_,fun b hb=>?_,q⟩
 ·have e1:lo+((0:Nat):Int)*1=lo:=by simp
  have e2:(((hi-lo).toNat:Nat):Int)-((0:Nat):Int)=Builtin.Range.rangeSize lo hi 1:=by rw[rangeSize_one];split<;>omega
  show IsRangeIter _ _ (lo+((0:Nat):Int)*1) ((((hi-lo).toNat:Nat):Int)-((0:Nat):Int)) 1;rw[e1,e2];exact Heap.get?_push_size _ rfl
 ·have e:b=(s.heap.push { cls:=.type "range",data:=.fields #[.int lo t,.int hi u,.int 1 v] }).objs.size:=by simpa using hb
  subst e;exact I1.EM (bB _) (I1.du.fresh (bB _))
def Wc (ta:TA):TI:=fun σ H R=>ta σ H fun vs H1=>∃j:Int,vs=[.int j]∧-(2^62)≤j∧j<2^62∧R (Wa 0 j.toNat) H1
theorem uE {a:Expr} {ta:TA} {p pos:Pos} (hg:Gl X "range") (hm:X.mg "range"=none) (ha:PA X [a] ta) (hs:autoParam (starEach [a] X.env=[(false,eval a X.env)]) cW):PI X tg (.Call (.Name "range" p) [a] [] pos) (Wc ta):=by
 intro pins s σ H R I h;refine Call_ (sI I hg hm boot_range (tU (dA (ha pos pins s σ H _ I h) fun us s1 ⟨vs,H1,I1,r1,q1⟩=>?_) hs rfl));obtain⟨j,e,q1,q2,q⟩:=q1;subst e;cases r1 with
 | cons r rr =>
  cases rr;obtain⟨t,rfl⟩:=r;exact call_range_1 (Nk I1 Kk Kk q1 q2 (by simpa using q))
def YK (wi:TI) (g:TG) (tb:TS):TS:=fun D σ H=>wi σ H fun J H1=>∃W:Nat→Nat→St→Hp→Prop,(∃m,W 0 m σ H1)∧∀i m σ H,W i m σ H →
 (J.stop i H∧D.nx σ H)∨(J.go i H∧∃N:St→Hp→Prop,(∀σ' H',N σ' H'→∃m',m'<m∧W (i+1) m' σ' H')∧∀x H',J.Kn i H x H'→g x σ H' fun σ2 H2=>tb { D with nx:=N,ct:=N,bk:=D.nx } σ2 H2)
def vJ (fp:List Addr) (h:Heap):List (Addr×Obj):=fp.filterMap fun b=>(h.get? b).map fun o=>(b,o)
theorem rj {fp:List Addr} {h:Heap} {b:Addr} {o:Obj} (hb:b∈fp) (e:h.get? b=some o):(b,o)∈vJ fp h:=Et.mpr ⟨b,hb,by rw[e];rfl⟩
theorem Kp {fp:List Addr} {h:Heap} {p:Addr×Obj} (hp:p∈vJ fp h):p.1∈fp∧h.get? p.1=some p.2:=by
 obtain⟨b,hb,e⟩:=Et.mp hp;cases q:h.get? b with
 | none=>rw[q] at e;cases e
 | some o =>
  rw[q] at e;have e':(b,o)=p:=bM e;subst e';exact⟨hb,q⟩
theorem Inv.pinned {pins:List (Addr×Obj)} {σ:St} {H:Hp} {s:Shared} {fp:List Addr} (I:Inv X pins σ H s) (hf:∀b∈fp,qE X pins H b) (ho:∀b∈fp,∃o,s.heap.get? b=some o∧∀v,o.data≠.cell v):Inv X (pins++vJ fp s.heap) σ H s :=
 I.Hu fun p hp=>(pL.mp hp).elim (fun z=>I.pin p (kg _ z)) fun z=>by
  obtain⟨hb,e⟩:=Kp z;obtain⟨f0,f1,f2,_⟩:=hf p.1 hb;obtain⟨o,e',d⟩:=ho p.1 hb;rw[e] at e';cases e';exact⟨e,f0,f1,f2,d⟩
theorem Inv.sO {pins pl:List (Addr×Obj)} {σ:St} {H:Hp} {s:Shared} (I:Inv X (pins++pl) σ H s):Inv X pins σ H s:=I.Hu fun p hp=>I.pin p (kg _ (yQ _ hp))
theorem nM {iter:Expr} {body:List Stmt} {wi:TI} {g:TG} {tb:TS} {pos:Pos} (hp:PassesOwn (model X.prog X.w) X.A X.env X.xe) (hc:X.calm=true) (hi:PI X tg iter wi) (hg:PG X tg g) (hb:qP X body tb)
  (hs:autoParam (∀x,foldedSetIterable iter X.env x=pure x) Ho):PS X (.For tg iter body [] pos) (YK wi g tb):=by
 intro pins s σ H D I h;refine wpAny_For (dA (hi pins s σ H _ I h) fun v s1 h1=>dA h1 fun V9 s2 h2=>?_) hs;obtain⟨it,fp,tn,J,H2,e,I2,T,oR,f2,W,⟨m0,w0⟩,turn⟩:=h2;subst e;have AY:∀{H':Hp},(∀b∈fp,H' b=none)→∀b∈fp,qE X pins H' b:=fun hn b hb=>⟨hn b hb,(f2 b hb).2⟩;refine codeAny_forLoop_any (fun n s'=>∃i σ' H',Inv X pins σ' H' s'∧tn i s'.heap∧(∀b∈fp,H' b=none)∧W i n σ' H') ?_ m0 ⟨0,σ,H2,I2,oR,fun b hb=>(f2 b hb).1,w0⟩;rintro n s3 ⟨i,σ3,H3,I3,SO,YL,w3⟩;rcases turn i n σ3 H3 w3 with ⟨stop,qn⟩ | ⟨go,N,hN,step⟩
 ·refine wpAny_passesOwn hp (dA (T.done X rfl rfl rfl hc i pins s3 σ3 H3 X.xe I3 (AY YL) SO stop) fun r s4 ⟨hr,I4⟩=>?_);subst hr;exact wpAny_execs_nil ⟨σ3,H3,I4,qn⟩
 ·refine wpAny_passesOwn hp (dA (T.item X rfl rfl rfl hc i pins s3 σ3 H3 X.xe I3 (AY YL) SO go) fun r s4 ⟨u,hr,h4⟩=>?_);subst hr;refine wpAny_passesOwn hp (dA h4 fun _ s5 ⟨x,H5,I5,r5,y5,Nl,fr5⟩=>?_);have I5':=I5.pinned (AY fr5) (T.obj _ _ Nl);refine wpAny_passesOwn hp (dA (hg _ s5 σ3 H5 x u _ I5' r5 (step x H5 y5)) fun _ s6 ⟨σ6,H6,I6,q6⟩=>?_);refine wpAny_passesOwn hp (dA (hb _ s6 σ6 H6 _ I6 q6) fun f s7 q7=>?_);have again:∀{σ7:St} {H7:Hp},Inv X (pins++vJ fp s5.heap) σ7 H7 s7→N σ7 H7→∃m,m<n∧∃i σ' H',Inv X pins σ' H' s7∧tn i s7.heap∧(∀b∈fp,H' b=none)∧W i m σ' H':=fun {σ7 H7} I7 n7=>by
   obtain⟨m',hm,w7⟩:=hN σ7 H7 n7;refine⟨m',hm,i+1,σ7,H7,I7.sO,T.keep _ _ _ Nl fun b hb o e=>(I7.pin (b,o) (kg _ (kg _ (rj hb e)))).1,fun b hb=>?_,w7⟩;obtain⟨o,e,d⟩:=T.obj _ _ Nl b hb;exact(I7.pin (b,o) (kg _ (kg _ (rj hb e)))).2.1
  cases f with
  | next=>obtain⟨σ7,H7,I7,n7⟩:=q7;exact again I7 n7
  | cont=>obtain⟨σ7,H7,I7,n7⟩:=q7;exact again I7 n7
  | brk=>obtain⟨σ7,H7,I7,q7⟩:=q7;exact⟨σ7,H7,I7.sO,q7⟩
  | ret v=>obtain⟨x7,σ7,H7,I7,r7,q7⟩:=q7;exact⟨x7,σ7,H7,I7.sO,r7,q7⟩
end
end L2
namespace L2
open PySem PySem.Spec PyProof.Rows
abbrev R2:=V→V→Hp→VK→Prop
def i9 (X:Cx) (f:Value→Value→Sem Value) (r:R2):Prop :=
 ∀(pins:List (Addr×Obj)) (s:Shared) (σ:St) (H:Hp) (x y:V) (v u:Value) (Q:VK),Inv X pins σ H s→RelV x v→RelV y u→r x y H Q →
  wpAny (model X.prog X.w) X.A (f v u) (EP X pins σ Q) X.xe s
def Wg (X:Cx) (f:Value→Sem Value) (r:V→Hp→VK→Prop):Prop :=
 ∀(pins:List (Addr×Obj)) (s:Shared) (σ:St) (H:Hp) (x:V) (v:Value) (Q:VK),Inv X pins σ H s→RelV x v→r x H Q →
  wpAny (model X.prog X.w) X.A (f v) (EP X pins σ Q) X.xe s
def pS (X:Cx) (f:Value) (r:List V→Hp→VK→Prop):Prop :=
 ∀(pins:List (Addr×Obj)) (s:Shared) (σ:St) (H:Hp) (xs:List V) (us:List Value) (Q:VK),Inv X pins σ H s→Vals xs us→r xs H Q →
  wpAny (model X.prog X.w) X.A (call f us) (EP X pins σ Q) X.xe s
def Kq (r:R2) (ta tb:TE):TE:=fun σ H Q=>ta σ H fun x H1=>tb σ H1 fun y H2=>r x y H2 Q
def tUn (r:V→Hp→VK→Prop) (ta:TE):TE:=fun σ H Q=>ta σ H fun x H1=>r x H1 Q
def rI (C:Int→Int→Prop) (g:Int→Int→V):R2:=fun x y H Q=>∃i j,x=.int i∧y=.int j∧C i j∧Q (g i j) H
def AZ (g:Int→Int→V):R2:=fun x y H Q=>∃i j,x=.int i∧y=.int j∧Q (g i j) H
def rU (g:Int→V):V→Hp→VK→Prop:=fun x H Q=>∃i,x=.int i∧Q (g i) H
section
variable {X:Cx} {a b c:Expr} {ta tb tc:TE} {pos:Pos}
theorem Px (ha:PE X a ta) (hb:PE X b tb) {pins:List (Addr×Obj)} {s:Shared} {σ:St} {H:Hp} {R:V→V→Hp→Prop} (I:Inv X pins σ H s)
  (h:ta σ H fun x H1=>tb σ H1 fun y H2=>R x y H2) {Q:Value→Shared→Prop} {f:Value→Value→Sem Value}
  (hf:∀v u s2 x y H2,Inv X pins σ H2 s2→RelV x v→RelV y u→R x y H2→wpAny (model X.prog X.w) X.A (f v u) Q X.xe s2) :
  wpAny (model X.prog X.w) X.A (eval a X.env) (fun v s₁=>wpAny (model X.prog X.w) X.A (eval b X.env) (fun u s₂=>wpAny (model X.prog X.w) X.A (f v u) Q X.xe s₂) X.xe s₁) X.xe s:=by
 refine dA (ha pins s σ H _ I h) fun v s1 ⟨x,H1,I1,r1,q1⟩=>?_;refine dA (hb pins s1 σ H1 _ I1 q1) fun u s2 ⟨y,H2,I2,r2,q2⟩=>?_;exact hf v u s2 x y H2 I2 r1 r2 q2
theorem aH {op:Operator} {r:R2} (ho:i9 X (binaryOp op) r) (ha:PE X a ta) (hb:PE X b tb):PE X (.BinOp a op b pos) (Kq r ta tb):=by
 intro pins s σ H Q I h;exact wpAny_BinOp (Px ha hb I h fun v u s2 x y H2 I2 rx ry q=>ho pins s2 σ H2 x y v u Q I2 rx ry q)
theorem iD {op:UnaryOp} {r:V→Hp→VK→Prop} (ho:Wg X (unaryOp op) r) (ha:PE X a ta):PE X (.UnaryOp op a pos) (tUn r ta):=by
 intro pins s σ H Q I h;exact UnaryOp_ (dA (ha pins s σ H _ I h) fun v s1 ⟨x,H1,I1,r1,q1⟩=>ho pins s1 σ H1 x v Q I1 r1 q1)
theorem Py {f:Value→Value→Sem Value} {C:Int→Int→Prop} {g:Int→Int→Int}
  (rule:∀(i j:Int) (t u:Tok) (s:Shared) (Q:Value→Shared→Prop) (E:Value→Shared→Prop),C i j→Q (.int (g i j) s.toks) { s with toks:=s.toks+1 }→wpAny (model X.prog X.w) X.A (f (.int i t) (.int j u)) Q E s) :
  i9 X f (rI C fun i j=>.int (g i j)):=by
 intro pins s σ H x y v u Q I rx ry h;obtain⟨i,j,rfl,rfl,hc,q⟩:=h;obtain⟨t,rfl⟩:=rx;obtain⟨t',rfl⟩:=ry;exact rule i j t t' s _ _ hc ⟨.int (g i j),H,I.tok _,⟨_,rfl⟩,q⟩
theorem Pz {f:Value→Value→Sem Value} {g:Int→Int→Int}
  (rule:∀(i j:Int) (t u:Tok) (s:Shared) (Q:Value→Shared→Prop) (E:Value→Shared→Prop),Q (.int (g i j) s.toks) { s with toks:=s.toks+1 }→wpAny (model X.prog X.w) X.A (f (.int i t) (.int j u)) Q E s) :
  i9 X f (AZ fun i j=>.int (g i j)):=by
 intro pins s σ H x y v u Q I rx ry h;obtain⟨i,j,rfl,rfl,q⟩:=h;obtain⟨t,rfl⟩:=rx;obtain⟨t',rfl⟩:=ry;exact rule i j t t' s _ _ ⟨.int (g i j),H,I.tok _,⟨_,rfl⟩,q⟩
theorem Mm {f:Value→Value→Sem Value} {g:Int→Int→Bool}
  (rule:∀(i j:Int) (t u:Tok) (s:Shared) (Q:Value→Shared→Prop) (E:Value→Shared→Prop),Q (.bool (g i j)) s→wpAny (model X.prog X.w) X.A (f (.int i t) (.int j u)) Q E s) :
  i9 X f (AZ fun i j=>.bl (g i j)):=by
 intro pins s σ H x y v u Q I rx ry h;obtain⟨i,j,rfl,rfl,q⟩:=h;obtain⟨t,rfl⟩:=rx;obtain⟨t',rfl⟩:=ry;exact rule i j t t' s _ _ ⟨.bl (g i j),H,I,rfl,q⟩
theorem HE (k:Nat):(0:Int)≤2^k:=by
 rw[two_pow_cast];exact fL _
theorem bX:i9 X (binaryOp .Add) (AZ fun i j=>.int (i+j)):=Pz fun _ _ _ _ _ _ _ q=>add_int q
theorem dn:i9 X (binaryOp .Sub) (AZ fun i j=>.int (i-j)):=Pz fun _ _ _ _ _ _ _ q=>sub_int q
theorem jG:i9 X (binaryOp .Mod) (rI (fun _ j=>0<j) fun i j=>.int (i%j)):=Py fun i j _ _ _ _ _ hc q=>by
 have h1:(0:Int)<j:=hc;exact mod_int' Kk (by rw[Int.fmod_eq_emod_of_nonneg i Kk];exact q)
theorem Mn:i9 X (binaryOp .RShift) (rI (fun _ j=>0≤j) fun i j=>.int (i/2^j.toNat)):=Py fun i j _ _ _ _ _ hc q =>
 rshift_int hc (by rw[EK i (HE _)];exact q)
theorem Mo:i9 X (binaryOp .BitAnd) (AZ fun i j=>.int (Builtin.bitAnd i j)):=Pz fun _ _ _ _ _ _ _ q=>and_int q
theorem unI {f:Value→Sem Value} {g:Int→Int}
  (rule:∀(i:Int) (t:Tok) (s:Shared) (Q:Value→Shared→Prop) (E:Value→Shared→Prop),Q (.int (g i) s.toks) { s with toks:=s.toks+1 }→wpAny (model X.prog X.w) X.A (f (.int i t)) Q E s) :
  Wg X f (rU fun i=>.int (g i)):=by
 intro pins s σ H x v Q I rx h;obtain⟨i,rfl,q⟩:=h;obtain⟨t,rfl⟩:=rx;exact rule i t s _ _ ⟨.int (g i),H,I.tok _,⟨_,rfl⟩,q⟩
theorem gq:Wg X (unaryOp .USub) (rU fun i=>.int (-i)):=unI fun _ _ _ _ _ q=>neg_int q
end
def Vo:V→V→Bool
 | .fV,.fV=>true | .fV,.int _=>true | .int _,.fV=>true | .fV,.bl _=>true | .bl _,.fV=>true | .fV,.str _=>true | .str _,.fV=>true
 | .int _,.int _=>true | .bl _,.bl _=>true | .str _,.str _=>true | .tQ _,.tQ _=>true
 | .int _,.str _=>true | .str _,.int _=>true | .bl _,.str _=>true | .str _,.bl _=>true
 | _,_=>false
def rEq:R2:=fun x y H Q=>Vo x y=true∧Q (.bl (decide (x=y))) H
def rNe:R2:=fun x y H Q=>Vo x y=true∧Q (.bl (!decide (x=y))) H
theorem HF {i j:Int}:decide (V.int i=V.int j)=(i==j):=by
 rw[kj];simp
theorem Mp {i j:Bool}:decide (V.bl i=V.bl j)=(i==j):=by
 rw[kj];simp
theorem HG {i j:Str}:decide (V.str i=V.str j)=(i==j):=by
 rw[kj];simp
theorem HH {i j:Array UInt8}:decide (V.tQ i=V.tQ j)=(i.toList==j.toList):=by
 rw[kj];cases i;cases j;simp
section
variable {X:Cx} {a b c:Expr} {ta tb tc:TE} {pos:Pos}
theorem dS {pins:List (Addr×Obj)} {σ:St} {H:Hp} {s:Shared} {Q:VK} {k k':Bool} (I:Inv X pins σ H s) (q:Q (.bl k) H) (e:k=k'):EP X pins σ Q (.bool k') s:=by
 subst e;exact⟨.bl k,H,I,rfl,q⟩
theorem PC:i9 X (compareOp .Eq) rEq:=by
 intro pins s σ H x y v u Q I rx ry h;obtain⟨hs,q⟩:=h;cases x with
 | fV =>
  cases rx;cases y with
  | fV=>cases ry;exact PySem.EqNone.eq_none_none (dS I q (by simp))
  | bl j=>cases ry;exact PySem.EqNone.eq_none_bool (dS I q (by simp))
  | int j=>obtain⟨t',rfl⟩:=ry;exact PySem.EqNone.eq_none_int (dS I q (by simp))
  | str j=>obtain⟨t',rfl⟩:=ry;exact PySem.EqNone.eq_none_str (dS I q (by simp))
  | _=>exact absurd (show false=true from hs) dB
 | bl i =>
  cases rx;cases y with
  | fV=>cases ry;exact PySem.EqNone.eq_bool_none (dS I q (by simp))
  | bl j=>cases ry;exact eq_bool (dS I q Mp)
  | str j=>obtain⟨t',rfl⟩:=ry;exact PySem.EqMixed.eq_bool_str (dS I q (by simp))
  | _=>exact absurd (show false=true from hs) dB
 | int i =>
  obtain⟨t,rfl⟩:=rx;cases y with
  | fV=>cases ry;exact PySem.EqNone.eq_int_none (dS I q (by simp))
  | int j=>obtain⟨t',rfl⟩:=ry;exact eq_int (dS I q HF)
  | str j=>obtain⟨t',rfl⟩:=ry;exact PySem.EqMixed.eq_int_str (dS I q (by simp))
  | _=>exact absurd (show false=true from hs) dB
 | str i =>
  obtain⟨t,rfl⟩:=rx;cases y with
  | fV=>cases ry;exact PySem.EqNone.eq_str_none (dS I q (by simp))
  | bl j=>cases ry;exact PySem.EqMixed.eq_str_bool (dS I q (by simp))
  | int j=>obtain⟨t',rfl⟩:=ry;exact PySem.EqMixed.eq_str_int (dS I q (by simp))
  | str j=>obtain⟨t',rfl⟩:=ry;exact eq_str (dS I q HG)
  | _=>exact absurd (show false=true from hs) dB
 | tQ i =>
  obtain⟨t,rfl⟩:=rx;cases y with
  | tQ j=>obtain⟨t',rfl⟩:=ry;exact PySem.W.eq_bytes (dS I q HH)
  | _=>exact absurd (show false=true from hs) dB
 | _=>cases y<;>exact absurd (show false=true from hs) dB
theorem PD:i9 X (compareOp .NotEq) rNe:=by
 intro pins s σ H x y v u Q I rx ry h;obtain⟨hs,q⟩:=h;cases x with
 | fV =>
  cases rx;cases y with
  | fV=>cases ry;exact PySem.EqNone.ne_none_none (dS I q (by simp))
  | bl j=>cases ry;exact PySem.EqNone.ne_none_bool (dS I q (by simp))
  | int j=>obtain⟨t',rfl⟩:=ry;exact PySem.EqNone.ne_none_int (dS I q (by simp))
  | str j=>obtain⟨t',rfl⟩:=ry;exact PySem.EqNone.ne_none_str (dS I q (by simp))
  | _=>exact absurd (show false=true from hs) dB
 | bl i =>
  cases rx;cases y with
  | fV=>cases ry;exact PySem.EqNone.ne_bool_none (dS I q (by simp))
  | bl j=>cases ry;exact ne_bool (dS I q (a7 not Mp))
  | str j=>obtain⟨t',rfl⟩:=ry;exact PySem.EqMixed.ne_bool_str (dS I q (by simp))
  | _=>exact absurd (show false=true from hs) dB
 | int i =>
  obtain⟨t,rfl⟩:=rx;cases y with
  | fV=>cases ry;exact PySem.EqNone.ne_int_none (dS I q (by simp))
  | int j=>obtain⟨t',rfl⟩:=ry;exact ne_int (dS I q (a7 not HF))
  | str j=>obtain⟨t',rfl⟩:=ry;exact PySem.EqMixed.ne_int_str (dS I q (by simp))
  | _=>exact absurd (show false=true from hs) dB
 | str i =>
  obtain⟨t,rfl⟩:=rx;cases y with
  | fV=>cases ry;exact PySem.EqNone.ne_str_none (dS I q (by simp))
  | bl j=>cases ry;exact PySem.EqMixed.ne_str_bool (dS I q (by simp))
  | int j=>obtain⟨t',rfl⟩:=ry;exact PySem.EqMixed.ne_str_int (dS I q (by simp))
  | str j=>obtain⟨t',rfl⟩:=ry;exact ne_str (dS I q (a7 not HG))
  | _=>exact absurd (show false=true from hs) dB
 | tQ i =>
  obtain⟨t,rfl⟩:=rx;cases y with
  | tQ j=>obtain⟨t',rfl⟩:=ry;exact PySem.W.ne_bytes (dS I q (a7 not HH))
  | _=>exact absurd (show false=true from hs) dB
 | _=>cases y<;>exact absurd (show false=true from hs) dB
theorem jx:i9 X (compareOp .Lt) (AZ fun i j=>.bl (decide (i<j))):=Mm fun _ _ _ _ _ _ _ q=>lt_int q
theorem A0:i9 X (compareOp .LtE) (AZ fun i j=>.bl (decide (i≤j))):=Mm fun _ _ _ _ _ _ _ q=>le_int q
theorem eY:i9 X (compareOp .Gt) (AZ fun i j=>.bl (decide (j<i))):=Mm fun _ _ _ _ _ _ _ q=>gt_int q
theorem mx:i9 X (compareOp .GtE) (AZ fun i j=>.bl (decide (j≤i))):=Mm fun _ _ _ _ _ _ _ q=>ge_int q
theorem SQ:i9 X (compareOp .Is) (fun x y H Q=>y=.fV∧Q (.bl (decide (x=.fV))) H):=by
 intro pins s σ H x y v u Q I rx ry h;obtain⟨rfl,q⟩:=h;cases ry;refine is_none_gen (dS I q ?_);cases x<;>first
  | (cases rx;rfl)
  | (obtain⟨t,rfl⟩:=rx;rfl)
theorem Mq (b:Expr) {op:CmpOp} (h:autoParam (op≠.In) ig) (h2:autoParam (op≠.NotIn) ig):behindInMarks op b=false:=by
 have e1:(op==CmpOp.In)=false:=by cases op<;>first | rfl | exact absurd rfl h
 have e2:(op==CmpOp.NotIn)=false:=by cases op<;>first | rfl | exact absurd rfl h2
 cases b<;>simp[behindInMarks,e1,e2]
theorem PF {op:CmpOp} {r:R2} (ho:i9 X (compareOp op) r) (ha:PE X a ta) (hb:PE X b tb) (hm:behindInMarks op b=false):PE X (.Compare a [op] [b] pos) (Kq r ta tb):=by
 intro pins s σ H Q I h;exact wpAny_Compare1 (Px ha hb I h fun v u s2 x y H2 I2 rx ry q=>ho pins s2 σ H2 x y v u Q I2 rx ry q) hm
def Kr (t:TE):TT:=fun σ H Q=>t σ H fun x H'=>∃k,x=.bl k∧Q k H'
theorem PH {op:CmpOp} {r:R2} (ho:i9 X (compareOp op) r) (ha:PE X a ta) (hb:PE X b tb) (hm:behindInMarks op b=false):PT X (.Compare a [op] [b] pos) (Kr (Kq r ta tb)):=by
 intro pins s σ H Q I h;refine wpAny_isTrue_Compare1 (dA (ha pins s σ H _ I h) fun v s1 ⟨x,H1,I1,r1,q1⟩=>dA (hb pins s1 σ H1 _ I1 q1) fun u s2 ⟨y,H2,I2,r2,q2⟩ =>
  dA (ho pins s2 σ H2 x y v u _ I2 r1 r2 q2) fun c s3 ⟨z,H3,I3,r3,k,e,q3⟩=>?_) hm
 subst e;cases r3;exact wpAny_truthy_bool ⟨H3,I3,q3⟩
def SS (r r':R2) (ta tb tc:TE):TE:=fun σ H Q=>ta σ H fun x H1=>tb σ H1 fun y H2=>r x y H2 fun z H3=>∃k,z=.bl k ∧
 (if k=true then tc σ H3 fun w' H4=>r' y w' H4 Q else Q (.bl false) H3)
theorem Nm {op Wh:CmpOp} {r r':R2} (ho:i9 X (compareOp op) r) (xK:i9 X (compareOp Wh) r') (ha:PE X a ta) (hb:PE X b tb) (hc:PE X c tc)
  (hm:lastMarks [op,Wh] [b,c]=false:=by with_unfolding_all rfl):PT X (.Compare a [op,Wh] [b,c] pos) (Kr (SS r r' ta tb tc)):=by
 intro pins s σ H Q I h;refine isTrue_chain (dA (ha pins s σ H _ I h) fun v s1 ⟨x,H1,I1,r1,q1⟩=>test_link (dA (hb pins s1 σ H1 _ I1 q1) fun u s2 ⟨y,H2,I2,r2,q2⟩ =>
  dA (ho pins s2 σ H2 x y v u _ I2 r1 r2 q2) fun d s3 ⟨z,H3,I3,r3,k,e,q3⟩=>?_)) hm
 subst e;cases r3;refine wpAny_truthy_bool ?_;cases k with
 | false =>
  obtain⟨k',e',q'⟩:=q3;cases e';exact ite_ff ⟨H3,I3,q'⟩
 | true =>
  refine ite_tt (test_last (dA (hc pins s3 σ H3 _ I3 q3) fun w' s4 ⟨z',H4,I4,r4,q4⟩=>dA (xK pins s4 σ H4 y z' u w' _ I4 r2 r4 q4) fun d' s5 ⟨z2,H5,I5,r5,k2,e2,q5⟩=>?_));subst e2;cases r5;exact wpAny_truthy_bool ⟨H5,I5,q5⟩
theorem sP:(sizeLine:Nat)<2^63:=by rw[sizeLine_eq];decide
theorem vals1 {x:V} {us:List Value} (r:Vals [x] us):∃u,us=[u]∧RelV x u:=by
 cases r with
 | cons r1 r2=>cases r2;exact⟨_,rfl,r1⟩
theorem vals2 {x y:V} {us:List Value} (r:Vals [x,y] us):∃u w',us=[u,w']∧RelV x u∧RelV y w':=by
 cases r with
 | cons r1 r2 =>
  cases r2 with
  | cons r3 r4=>cases r4;exact⟨_,_,rfl,r1,r3⟩
theorem oS:pS X (.builtin "abs") (fun xs H Q=>∃i,xs=[.int i]∧Q (.int (if i<0 then -i else i)) H):=by
 intro pins s σ H xs us Q I r h;obtain⟨i,rfl,q⟩:=h;obtain⟨u,rfl,t,rfl⟩:=vals1 r;exact call_abs_int fun u tk=>⟨.int (if i<0 then -i else i),H,I.tok _,⟨_,rfl⟩,q⟩
theorem pT (hc:X.calm=true):pS X (.builtin "max") (fun xs H Q=>∃i j,xs=[.int i,.int j]∧Q (.int (if j>i then j else i)) H):=by
 intro pins s σ H xs us Q I r h;obtain⟨i,j,rfl,q⟩:=h;obtain⟨u,w',rfl,⟨t,rfl⟩,⟨t',rfl⟩⟩:=vals2 r;refine max_two_ints (I.ok.hd hc) fun h' tk k=>⟨_,H,I.kept k,?_,q⟩;by_cases hj:j>i
 ·rw[ao hj,ao hj];exact⟨_,rfl⟩
 ·rw[ag hj,ag hj];exact⟨_,rfl⟩
theorem uG (hc:X.calm=true):pS X (.builtin "min") (fun xs H Q=>∃i j,xs=[.int i,.int j]∧Q (.int (if j<i then j else i)) H):=by
 intro pins s σ H xs us Q I r h;obtain⟨i,j,rfl,q⟩:=h;obtain⟨u,w',rfl,⟨t,rfl⟩,⟨t',rfl⟩⟩:=vals2 r;refine min_two_ints (I.ok.hd hc) fun h' tk k=>⟨_,H,I.kept k,?_,q⟩;by_cases hj:j<i
 ·rw[ao hj,ao hj];exact⟨_,rfl⟩
 ·rw[ag hj,ag hj];exact⟨_,rfl⟩
theorem Nn:pS X (.builtin "ord") (fun xs H Q=>∃x,xs=[.str x]∧x.length=1∧Q (.int (x.cps.getD 0 0:Nat)) H):=by
 intro pins s σ H xs us Q I r h;obtain⟨x,rfl,hz,q⟩:=h;obtain⟨u,rfl,t,rfl⟩:=vals1 r;exact ord_of_one hz ⟨.int _,H,I.tok _,⟨_,rfl⟩,q⟩
end
end L2
namespace L2
open PySem PySem.Spec PyProof.Rows
structure A3 (h:Heap) (x dx C:Addr) (mA:Str→Option Value):Prop where
 obj:h.get? x=some (PySem.W.instObj C dx)
 ns:h.Ns1 dx mA
 ne:dx≠x
theorem Ks {h:Heap} {dx:Addr} {mA:Str→Option Value} (n:h.Ns1 dx mA):∃od,h.get? dx=some od∧∀name,PySem.W.lookIn name od=some (mA name):=by
 obtain⟨o,es,ep,ho,hd,hk,_,hm⟩:=n;refine⟨o,ho,fun name=>?_⟩;have e:=hm name;unfold nsFind findBy at e;rw[←Array.find?_toList] at e;unfold PySem.W.lookIn;rw[hd];dsimp only;split
 ·rename_i y q;rw[q] at e;exact a7 some e
 ·rename_i q;rw[q] at e;have a:es.toList.any (·.refKey)=false:=by
   rw[List.any_eq_false];intro y hy;obtain⟨z,t,YO⟩:=hk y (Array.mem_toList_iff.mp hy);simp[DictEntry.refKey,YO]
  have a':¬es.toList.any (·.refKey)=true:=by rw[a];exact dB
  rw[ag a'];exact a7 some e
theorem A3.look {h:Heap} {x dx C:Addr} {mA:Str→Option Value} (I:A3 h x dx C mA):∃od,PySem.W.InstAt h x (PySem.W.instObj C dx) C (some od)∧∀name,PySem.W.lookIn name od=some (mA name) :=
 let ⟨od,ho,hl⟩:=Ks I.ns
 ⟨od,⟨I.obj,rfl,rfl,ho⟩,hl⟩
section
variable {prog:Program} {w:World} {A:Around} {E:Value→Shared→Prop} {s:Shared} {K:aP} {x dx C f:Addr} {mA:Str→Option Value} {name:Str} {v:Value}
theorem get_map {expr:Bool} {Q:Value→Shared→Prop} (X:K.In s.heap) (I:A3 s.heap x dx C mA) (hg:PySem.W.plainGet K C name=true) (hh:PySem.W.hasDictIn K C=true)
  (ha:PySem.W.findIn K (.ref C) name=some none) (hv:mA name=some v) (SU:PySem.W.handedIn v=true) (h:Q v { s with toks:=s.toks+1 }) :
  wpAny (model prog w) A (getAttr (.ref x) name expr) Q E s:=by
 obtain⟨od,J,hl⟩:=I.look;exact PySem.W.get_value X J (PySem.W.plainGet_of hg).1 (PySem.W.findObj_own hh ha rfl (by rw[hl,hv])) SU h
theorem Nq {pl:Sem Bool} {Q:Value×List Value→Shared→Prop} (X:K.In s.heap) (I:A3 s.heap x dx C mA) (hg:PySem.W.plainGet K C name=true)
  (hf:PySem.W.findIn K (.ref C) name=some (some (.ref f))) (ht:PySem.W.isFn K (.ref f)=true) (hv:mA name=none) (h:Q (.ref f,[.ref x]) s) :
  wpAny (model prog w) A (getMethod (.ref x) name pl) Q E s:=by
 obtain⟨od,J,hl⟩:=I.look;exact PySem.W.method_fn X J (PySem.W.plainGet_of hg).1 (PySem.W.plainGet_of hg).2 hf (dF.mp ht) (by show (PySem.W.lookIn name od).map (·.isSome)=some false;rw[hl,hv];rfl) h
theorem PJ {ns:List Str} {Q:Unit→Shared→Prop} (X:K.In s.heap) (I:A3 s.heap x dx C mA)
  (hs:PySem.W.findIn K (.ref C) "__setattr__"=some (some (.builtin "object.__setattr__"))) (hp:PySem.W.plainOver K C=true) (ht:PySem.W.takerIn K C name=some none) (hh:PySem.W.hasDictIn K C=true)
  (hw:PySem.Within mA ns) (hsz:ns.length≤sizeLine)
  (h:∀h',A3 h' x dx C (fun y=>if y=name then some v else mA y)→Heap.SameBut dx s.heap h'→Q () { s with heap:=h',toks:=s.toks+2 }) :
  wpAny (model prog w) A (setAttr (.ref x) name v) Q E s:=by
 obtain⟨od,J,hl⟩:=I.look;refine PySem.W.set_plain X J hs (PySem.W.osa_open (s:={ s with toks:=s.toks+1 }) (r:=none) X J hp ht fun b=>?_);obtain⟨cd,hc,rf⟩:=PySem.W.any_some hh;have hx:s.heap.get? x=some ⟨.ref C,some dx,.plain,#[]⟩:=I.obj;refine wpAny_bind (wpAny_pure (wpAny_bind (wpAny_bind (wpAny_loadPart hx (wpAny_bind (PySem.W.Looks.here (s:={ s with toks:=s.toks+1 }) (PySem.W.looks_clsIn X hc) ?_))))));rw[rf];refine wpAny_pure (a:=some dx) (wpAny_bind (wpAny_pure (wpAny_bind ?_)));refine wpAny_nsSet1 (s:={ s with toks:=s.toks+1 }) I.ns fun h' PK Nr=>?_;obtain⟨oD,esD,epD,hoD,hdD,hcD⟩:=PK.count (PySem.Within.cons name v hw);refine wpAny_bind (wpAny_lookBehind hoD (by rw[hdD];exact pastItsLine_dict (bZ hcD (by rw[cN];omega))) ?_);exact wpAny_pure (h _ ⟨(Nr.2 _ (j9 I.ne)).trans I.obj,PK,I.ne⟩ Nr)
theorem Nt {R:Result→Shared→Prop} {vs:List Value} {kw:List (Str×Value)} (X:K.In s.heap) (hm:PySem.W.makesIn K C=true)
  (hi:PySem.W.findIn K (.ref C) "__init__"=some (some (.ref f))) (hf:PySem.W.typeIn K (.ref f)=some (.type "function"))
  (h:codeAny (model prog w) (A.under (.builtin "type.__call__" ⟨.ref C::vs,kw⟩)) (.call (.ref f) ⟨.ref (s.heap.objs.size+1)::vs,kw⟩) (PySem.W.InitBack (s.heap.objs.size+1) R)
   { s with heap:=(s.heap.push PySem.W.emptyDict).push (PySem.W.instObj C s.heap.objs.size) }) :
  codeAny (model prog w) A (.call (.ref C) ⟨vs,kw⟩) R s:=by
 obtain⟨hh,g,d,t,os⟩:=s;exact PySem.W.make_core (PySem.W.makes_of X hm) (PySem.W.looks_findIn X hi) (fun self=>PySem.W.bind_fn X self hf) (.inl rfl) h
end
def kH (f:Str) (v:V):List (Str×V)→List (Str×V)
 | []=>[(f,v)]
 | (g,x)::r=>if g=f then (g,v)::r else (g,x)::kH f v r
theorem vK (f g:Str) (v:V):∀fs:List (Str×V),(kH f v fs).lookup g=if g=f then some v else fs.lookup g
 | []=>by
  show List.lookup g [(f,v)]=_;by_cases h:g=f
  ·have hb:(g==f)=true:=dF.mpr h;simp only[List.lookup,hb,ao h]
  ·have hb:(g==f)=false:=tT.mpr h;simp only[List.lookup,hb,ag h]
 | (k,x)::r=>by
  have ih:=vK f g v r;rw[show kH f v ((k,x)::r)=(if k=f then (k,v)::r else (k,x)::kH f v r) from rfl];by_cases hk:k=f
  ·rw[ao hk];by_cases h:g=k
   ·have hb:(g==k)=true:=dF.mpr h;simp only[List.lookup,hb,ao (h.trans hk)]
   ·have hb:(g==k)=false:=tT.mpr h;simp only[List.lookup,hb,ag (fun e:g=f=>h (e.trans hk.symm))]
  ·rw[ag hk];by_cases h:g=k
   ·have hb:(g==k)=true:=dF.mpr h;simp only[List.lookup,hb,ag (fun e:g=f=>hk (h.symm.trans e))]
   ·have hb:(g==k)=false:=tT.mpr h;simp only[List.lookup,hb];exact ih
theorem uH (f:Str) (v:V):∀fs:List (Str×V),f∈(kH f v fs).map (·.1)∧∀g,g∈fs.map (·.1)→g∈(kH f v fs).map (·.1)
 | []=>⟨by simp[kH],fun g h=>by simp at h⟩
 | (k,x)::r=>by
  obtain⟨i1,i2⟩:=uH f v r;rw[show kH f v ((k,x)::r)=(if k=f then (k,v)::r else (k,x)::kH f v r) from rfl];by_cases hk:k=f
  ·rw[ao hk];subst hk;exact⟨by simp,fun g h=>by simpa using h⟩
  ·rw[ag hk];refine⟨?_,fun g h=>?_⟩
   ·rw[fU];exact dw _ i1
   ·rw[fU] at h ⊢;rcases cO.mp h with e | e
    ·exact cO.mpr (.inl e)
    ·exact dw _ (i2 g e)
theorem vN (f:Str) (v:V):∀fs:List (Str×V),(kH f v fs).length≤fs.length+1
 | []=>by simp[kH]
 | (k,x)::r=>by
  have ih:=vN f v r;rw[show kH f v ((k,x)::r)=(if k=f then (k,v)::r else (k,x)::kH f v r) from rfl];by_cases hk:k=f
  ·rw[ao hk,cN,cN];omega
  ·rw[ag hk,cN,cN];omega
theorem uf.PL {v:V} {o:Option Value} (r:uf (some v) o):∃u,o=some u∧RelV v u:=by
 cases o with
 | none=>exact(show False from r).elim
 | some u=>exact⟨u,rfl,r⟩
theorem uf.none_of {o:Option Value} (r:uf none o):o=none:=by
 cases o with
 | none=>rfl
 | some u=>exact(show False from r).elim
theorem Kt {v:V} {u:Value} (r:RelV v u):PySem.W.handedIn u=true:=by
 cases v with
 | fV=>cases (show u=Value.none from r);rfl
 | bl b=>cases (show u=Value.bool b from r);rfl
 | int i=>obtain⟨t,e⟩:=(show ∃t,u=Value.int i t from r);cases e;rfl
 | str x=>obtain⟨t,e⟩:=(show ∃t,u=Value.str x t from r);cases e;rfl
 | tQ b=>obtain⟨t,e⟩:=(show ∃t,u=Value.bytes b t from r);cases e;rfl
 | Sz b=>obtain⟨t,e⟩:=(show ∃t,u=Value.float b t from r);cases e;rfl
 | ref a=>cases (show u=Value.ref a from r);rfl
 | ty n=>cases (show u=Value.type n from r);rfl
section
variable {P:Program} {w:World} {H H':Hp} {h h':Heap} {a C dx:Addr} {fs fs':List (Str×V)}
theorem A4 (du:jv P w H h) (e:H a=some (.ins C dx fs)):∃mA,A3 h a dx C mA∧(∀f,uf (fs.lookup f) (mA f))∧PySem.Within mA (fs.map (·.1))∧fs.length≤1000∧H dx=some (.own a):=by
 obtain⟨d,z,ne,ob,mA,n,r,q⟩:=(show g5 P w H h a (.ins C dx fs) from du a _ e);exact⟨mA,⟨ob,n,ne⟩,r,q,z,d⟩
end
structure zx (K:aP) (C:Addr):Prop where
 pg:PySem.W.plainGet K C Str.empty=true
 hd:PySem.W.hasDictIn K C=true
 po:PySem.W.plainOver K C=true
 sa:PySem.W.findIn K (.ref C) "__setattr__"=some (some (.builtin "object.__setattr__"))
theorem zx.get {K:aP} {C:Addr} (c:zx K C) (f:Str):PySem.W.plainGet K C f=true:=c.pg
def gb (K:aP) (C:Addr) (f:Str):Prop:=PySem.W.findIn K (.ref C) f=some none
theorem gb.Wi {K:aP} {C:Addr} {f:Str} (n:gb K C f):PySem.W.takerIn K C f=some none:=by
 unfold PySem.W.takerIn;rw[show PySem.W.findIn K (.ref C) f=some none from n];rfl
structure EO (K:aP) (C:Addr) (m:Str) (f:Addr):Prop where
 at_:PySem.W.findIn K (.ref C) m=some (some (.ref f))
 fn:PySem.W.isFn K (.ref f)=true
 kp:PySem.W.keepIn K (.ref f)=true
section
variable {X:Cx} {pins:List (Addr×Obj)} {σ:St} {H:Hp} {s:Shared} {a C dx:Addr} {fs:List (Str×V)} {f:Str} {v:V} {A:Around} {E:Value→Shared→Prop}
theorem yK {b:Bool} {Q:Value→Shared→Prop} (I:Inv X pins σ H s) (e:H a=some (.ins C dx fs)) (c:zx X.K C) (n:gb X.K C f) (l:fs.lookup f=some v)
  (h:∀u s',Inv X pins σ H s'→RelV v u→Q u s'):wpAny (model X.prog X.w) A (getAttr (.ref a) f b) Q E s:=by
 obtain⟨mA,O,r,_,_,_⟩:=A4 I.du e;obtain⟨u,hu,ru⟩:=uf.PL (v:=v) (o:=mA f) (by rw[←l];exact r f);exact get_map I.qO O (c.get f) c.hd n hu (Kt ru) (h u _ (I.tok _) ru)
theorem nN {m:Str} {g:Addr} {pl:Sem Bool} {Q:Value×List Value→Shared→Prop} (I:Inv X pins σ H s) (e:H a=some (.ins C dx fs)) (c:zx X.K C) (k:EO X.K C m g) (l:fs.lookup m=none)
  (h:Q (.ref g,[.ref a]) s):wpAny (model X.prog X.w) A (getMethod (.ref a) m pl) Q E s:=by
 obtain⟨mA,O,r,_,_,_⟩:=A4 I.du e;have hn:mA m=none:=uf.none_of (by rw[←l];exact r m);exact Nq I.qO O (c.get m) k.at_ k.fn hn h
theorem HJ {y:V} {u:Value} {Q:Unit→Shared→Prop} (I:Inv X pins σ H s) (e:H a=some (.ins C dx fs)) (c:zx X.K C) (n:gb X.K C f) (hl:fs.length<1000) (ry:RelV y u)
  (h:∀s',Inv X pins σ (upd H a (.ins C dx (kH f y fs))) s'→Q () s'):wpAny (model X.prog X.w) A (setAttr (.ref a) f u) Q E s:=by
 obtain⟨mA,O,r,wi,_,ho⟩:=A4 I.du e;have hz:(fs.map (·.1)).length≤sizeLine:=by rw[aF,sizeLine_eq];omega
 refine PJ I.qO O c.sa c.po n.Wi c.hd wi hz fun h' O' sb=>h _ ?_;have hd:∃o,h'.get? dx=some o:=let ⟨o,_,_,e',_⟩:=O'.ns;⟨o,e'⟩;refine I.write (x:=a) (e:=dx) (by rw[e];exact True.intro) (.inr ho) (fun b q hb z=>(sb.2 b hb).trans z) hd ?_;refine⟨by rw[b7 O.ne];exact ho,?_,O.ne,O'.obj,_,O'.ns,fun g=>?_,fun g hg=>?_⟩
 ·have:=vN f y fs;omega
 ·show uf ((kH f y fs).lookup g) (if g=f then some u else mA g);rw[vK];by_cases q:g=f
  ·rw[ao q,ao q];exact ry
  ·rw[ag q,ag q];exact r g
 ·by_cases q:g=f
  ·rw[q];exact(uH f y fs).1
  ·refine(uH f y fs).2 g (wi g fun z=>hg ?_);show (if g=f then some u else mA g)=none;rw[ag q];exact z
theorem Inv.made (I:Inv X pins σ H s):Inv X pins σ (upd (upd H s.heap.objs.size (.own (s.heap.objs.size+1))) (s.heap.objs.size+1) (.ins C s.heap.objs.size []))
  { s with heap:=(s.heap.push PySem.W.emptyDict).push (PySem.W.instObj C s.heap.objs.size) }:=by
 have e1:(s.heap.push PySem.W.emptyDict).get? s.heap.objs.size=some PySem.W.emptyDict:=Heap.get?_push_size s.heap rfl;have e2:((s.heap.push PySem.W.emptyDict).push (PySem.W.instObj C s.heap.objs.size)).get? (s.heap.objs.size+1)=some (PySem.W.instObj C s.heap.objs.size):=by
  have:=Heap.get?_push_size (s.heap.push PySem.W.emptyDict) (o:=PySem.W.instObj C s.heap.objs.size) rfl;rwa [Heap.size_push] at this
 have e3:(s.heap.push PySem.W.emptyDict).Ns s.heap.objs.size (fun _=>none):=⟨PySem.W.emptyDict,#[],_,e1,rfl,(fun e he=>absurd he (by simp)),fun _=>rfl⟩;have I1:=I.laid (a:=s.heap.objs.size) (o:=.own (s.heap.objs.size+1)) (h':=s.heap.push PySem.W.emptyDict) (t':=s.toks) (fun b u q=>Heap.get?_push_of_some _ q) (bB _) ⟨_,e1⟩;refine I1.laid (a:=s.heap.objs.size+1) (o:=.ins C s.heap.objs.size []) (t':=s.toks) (fun b u q=>Heap.get?_push_of_some _ q) (zq (Heap.size_push _ _)) ?_;have ne:s.heap.objs.size≠s.heap.objs.size+1:=dJ (EN _);refine⟨by rw[b7 ne,aL],iC _,ne,e2,fun _=>none,(Heap.Ns1.of_empty e3).at fun o q=>Heap.get?_push_of_some _ q,fun _=>True.intro,fun y hy=>absurd rfl hy⟩
theorem HK {prog:Program} {w:World} {env:Env} {e:Expr} {f:Str} {pos:Pos} {s:Shared} {Q:Value→Shared→Prop} (hb:attributeBase e f env (eval e env)=eval e env)
  (h:wpAny (model prog w) A (eval e env) (fun o s₁=>wpAny (model prog w) A (getAttr o f true) Q E s₁) E s):wpAny (model prog w) A (eval (.Attribute e f pos) env) Q E s :=
 Attribute_any_ h (by rw[arm_eval_Attribute,hb])
end
def YR (K:aP) (ta:TE) (f:Str):TE:=fun σ H Q=>ta σ H fun x H1=>∃a C dx fs v,x=.ref a∧H1 a=some (.ins C dx fs)∧zx K C∧gb K C f∧fs.lookup f=some v∧Q v H1
def YS (K:aP) (ta tv:TE) (f:Str):TS:=fun D σ H=>tv σ H fun y H1=>ta σ H1 fun x H2=>∃a C dx fs,x=.ref a∧H2 a=some (.ins C dx fs)∧zx K C∧gb K C f∧fs.length<1000 ∧
 D.nx σ (upd H2 a (.ins C dx (kH f y fs)))
section
variable {X:Cx} {o e value:Expr} {f:Str} {pos pos' yL:Pos} {ta tv:TE}
theorem FU (he:PE X e ta) (hb:attributeBase e f X.env (eval e X.env)=eval e X.env):PE X (.Attribute e f pos) (YR X.K ta f):=by
 intro pins s σ H Q I h;refine HK hb (dA (he pins s σ H _ I h) fun u s1 ⟨x,H1,I1,rx,a,C,dx,fs,v,ex,ea,c,n,l,q⟩=>?_);subst ex;obtain rfl:u=Value.ref a:=rx;exact yK I1 ea c n l fun u' s2 I2 ru=>⟨v,H1,I2,ru,q⟩
theorem nO (ha:PE X o ta) (hv:PE X value tv) (hs:swapsWith value (some (.Attribute o f pos')) pos.line X.env=pure false):PS X (.Assign [.Attribute o f pos'] value pos) (YS X.K ta tv f):=by
 intro pins s σ H D I h;refine plainObj_wpAny_Assign_Attribute (dA (hv pins s σ H _ I h) fun u s1 ⟨y,H1,I1,ry,q⟩=>dA (ha pins s1 σ H1 _ I1 q) fun ov s2 ⟨x,H2,I2,rx,a,C,dx,fs,ex,ea,c,n,l,q2⟩=>?_) hs;subst ex;obtain rfl:ov=Value.ref a:=rx;exact HJ I2 ea c n l ry fun s3 I3=>⟨σ,_,I3,q2⟩
end
end L2
namespace L2
open PySem PySem.Spec PyProof.Rows
structure fk (k:Nat) (A:Around):Prop where
 hd:A.handled=none
 dp:A.depth+3*k+5<recursionLimit
 un:A.units+16*k+200<cLine
theorem fk.mono {j k:Nat} {A:Around} (r:fk k A) (h:j≤k):fk j A:=⟨r.hd,by have:=r.dp;omega,by have:=r.un;omega⟩
theorem fk.deeper {k:Nat} {A:Around} (r:fk (k+1) A) (env:Env):fk k (A.deeper env) :=
 ⟨r.hd,by have:=r.dp;show A.depth+1+3*k+5<_;omega,by have:=r.un;show A.units+3+16*k+200<_;omega⟩
theorem HL {A:Around} {C:Addr} {us:List Value} {kw:List (Str×Value)}:(A.under (.builtin "type.__call__" ⟨.ref C::us,kw⟩)).depth=A.depth+1:=by
 first | rfl | simp[Around.under,Code.weight,Code.isCreation,Code.isGuard,Code.isCaller,Code.frames,Code.isFrame,guardIds]
theorem HM {A:Around} {C:Addr} {us:List Value} {kw:List (Str×Value)}:(A.under (.builtin "type.__call__" ⟨.ref C::us,kw⟩)).units=A.units+1:=by
 first | rfl | simp[Around.under,Code.cUnits,Code.frames,Code.isFrame]
theorem fk.make {k:Nat} {A:Around} (r:fk (k+1) A) (C:Addr) (us:List Value) (kw:List (Str×Value)):fk k (A.under (.builtin "type.__call__" ⟨.ref C::us,kw⟩)) :=
 ⟨r.hd,by have:=r.dp;rw[HL];omega,by have:=r.un;rw[HM];omega⟩
theorem fk.depth {k:Nat} {A:Around} (r:fk k A):A.depth<recursionLimit:=by have:=r.dp;omega
theorem fk.units {k:Nat} {A:Around} (r:fk k A):A.units+64<cLine:=by have:=r.un;omega
def ER:TA:=fun _ H Q=>Q [] H
def Wj (ta:TE) (tr:TA):TA:=fun σ H Q=>ta σ H fun x H1=>tr σ H1 fun xs H2=>Q (x::xs) H2
section
variable {X:Cx} {e:Expr} {es:List Expr} {te:TE} {t:TA} {pos:Pos}
theorem ae:PA X [] ER:=fun _ _ _ _ H Q I h=>Calls.spliced_nil ⟨[],H,I,.nil,h⟩
theorem aa (ha:PE X e te) (hr:PA X es t) (hs:autoParam (starEach (e::es) X.env=(false,eval e X.env)::starEach es X.env) cW):PA X (e::es) (Wj te t):=by
 intro pos pins s σ H Q I h;rw[hs];show wpAny _ _ (spliced ((false,eval e X.env)::backTo pos (starEach es X.env))) _ _ s;refine Calls.spliced_cons (dA (ha pins s σ H _ I h) fun u s1 ⟨x,H1,I1,r1,q1⟩=>?_);exact dA (hr pos pins s1 σ H1 _ I1 q1) fun us s2 ⟨xs,H2,I2,r2,q2⟩=>⟨x::xs,H2,I2,.cons r1 r2,q2⟩
def YT (t:TA):TE:=fun σ H Q=>t σ H fun xs H1=>xs.length≤sizeLine∧∀p,H1 p=none→Q (.ref p) (upd H1 p (.lst xs))
theorem dz (h:PA X es t):PE X (.List es pos) (YT t):=by
 intro pins s σ H Q I hq;refine wpAny_List_spliced (dA (h pos pins s σ H _ I hq) fun us s1 ⟨xs,H1,I1,r,z,q⟩=>⟨by rw[←r.length];exact z,?_⟩);have hf:H1 s1.heap.objs.size=none:=I1.du.fresh (bB _);refine⟨.ref s1.heap.objs.size,upd H1 s1.heap.objs.size (.lst xs),I1.laid (t':=s1.toks) (fun b u e=>Heap.get?_push_of_some _ e) (bB _) ?_,rfl,q _ hf⟩;exact⟨z,us,0,r,Heap.get?_push_size _ rfl⟩
end
abbrev Sp:=List V→Hp→VK→XK→Prop
abbrev vP:=List Env→Hp→Shared→XK→Value→Shared→Prop
structure A5 (P:Program) (w:World) (K:aP) (mg:Str→Option Value) (base:Heap) (A:Around) (outer:List Env) (s:Shared) (H:Hp):Prop where
 frames:A.frames=some outer
 mod:Mod K mg base
 bs:∀b o,base.get? b=some o→s.heap.get? b=some o∧H b=none
 zt:base.objs.size≤s.heap.objs.size
 mr:s.heap.FunFrames base outer
 DM:∀b∈nj outer,H b=none
 du:jv P w H s.heap
 bare:AllBare s.gens
def CE (outer:List Env) (P:Program) (w:World) (H:Hp) (s:Shared) (Q:VK) (u:Value) (s':Shared):Prop :=
 ∃v H',s'.os=s.os∧AllBare s'.gens∧Un (nj outer) [] H H' s.heap s'.heap∧jv P w H' s'.heap∧RelV v u∧Q v H'
def CR (CX:vP) (outer:List Env) (P:Program) (w:World) (H:Hp) (s:Shared) (Q:VK) (E:XK) (r:Result) (s':Shared):Prop :=
 match r with
 | .ok (.ret u)=>CE outer P w H s Q u s'
 | .ok _=>False
 | .error e=>CX outer H s E e s'
structure jA (P:Program) (w:World) (K:aP) (mg:Str→Option Value) (base:Heap) (CX:vP) (k:Nat) (f:Addr) (fd:FuncData) (ps:List Str) (sp:Sp):Prop where
 len:∀vs H Q E,sp vs H Q E→vs.length=ps.length
 run:∀(A:Around) (outer:List Env) (s:Shared) (H:Hp) (args:Args) (us:List Value) (vs:List V) (Q:VK) (E:XK),fk k A→A5 P w K mg base A outer s H→BindsTo s fd args (ps.zip us)→Vals vs us→sp vs H Q E →
  codeAny (model P w) A (.call (.ref f) args) (CR CX outer P w H s Q E) s
theorem A5.make {P:Program} {w:World} {K:aP} {mg:Str→Option Value} {base:Heap} {A:Around} {outer:List Env} {s:Shared} {H:Hp} (e:A5 P w K mg base A outer s H) (C:Addr) (us:List Value) (kw:List (Str×Value)) :
 A5 P w K mg base (A.under (.builtin "type.__call__" ⟨.ref C::us,kw⟩)) outer s H:=⟨by first | exact e.frames | (simpa [Around.under,Code.envs,Code.isFrame,pushEnvs] using e.frames),e.mod,e.bs,e.zt,e.mr,e.DM,e.du,e.bare⟩
section
variable {X:Cx} {pins:List (Addr×Obj)} {σ:St} {H:Hp} {s s':Shared}
theorem Inv.Vp (I:Inv X pins σ H s):A5 X.prog X.w X.K X.mg X.base X.A X.stack s H :=
 ⟨I.ok.frames,I.ok.mod,I.bs,bZ I.ok.zt I.sz,I.stack,I.AQ,I.du,I.bare⟩
theorem Inv.after {Q:VK} {u:Value} (I:Inv X pins σ H s) (h:CE X.stack X.prog X.w H s Q u s'):EP X pins σ Q u s':=by
 obtain⟨v,H',os,bare,un,du,r,q⟩:=h;obtain⟨hh,g,d,t,os'⟩:=s';obtain rfl:os'=s.os:=os;exact⟨v,H',I.call (h':=hh) (g':=g) (d':=d) (t':=t) (ch:=[]) un du bare (fun b z=>absurd z (by simp)),r,q⟩
end
def rm (sp:Sp) (oq:List V) (E:XK) (t:TA):TE:=fun σ H Q=>t σ H fun vs H1=>sp (vs++oq) H1 Q E
def Ku (C:Addr) (m:Str) (sp:Sp) (oq:List V) (E:XK) (ta:TE) (t:TA):TE:=fun σ H Q=>ta σ H fun x H1=>∃a dx fs,x=.ref a∧H1 a=some (.ins C dx fs)∧fs.lookup m=none ∧
 t σ H1 fun vs H2=>sp (x::(vs++oq)) H2 Q E
def PQ (C:Addr) (sp:Sp) (oq:List V) (E:XK) (t:TA):TE:=fun σ H Q=>t σ H fun vs H1=>∀x dx,H1 x=none→H1 dx=none→dx≠x →
 sp (.ref x::(vs++oq)) (upd (upd H1 dx (.own x)) x (.ins C dx [])) (fun v H2=>v=.fV∧Q (.ref x) H2) E
def Binds (K:aP) (fd:FuncData) (ps:List Str) (ds:List Value):Prop :=
 ∀(s:Shared) (us:List Value),K.In s.heap→(us++ds).length=ps.length→BindsTo s fd ⟨us,[]⟩ (ps.zip (us++ds))
theorem Binds.all {K:aP} {fd:FuncData} {ps:List Str} (h:∀us:List Value,us.length=ps.length→bindArgs fd ⟨us,[]⟩=pure (ps.zip us)):Binds K fd ps []:=fun s us _ hl=>by
 rw[fW] at hl ⊢;exact .of_eq (h us hl)
def Passes (CX:vP) (X:Cx) (E:XK):Prop:=∀(pins:List (Addr×Obj)) (σ:St) (H:Hp) (s:Shared) (e:Value) (s':Shared),Inv X pins σ H s→CX X.stack H s E e s'→X.xe e s'
section
variable {X:Cx} {CX:vP} {k:Nat} {f C:Addr} {fd:FuncData} {ps:List Str} {sp:Sp} {oq:List V} {ds:List Value} {E:XK} {x m:Str} {p pos apos:Pos} {e o:Expr} {es:List Expr} {ta:TE} {t:TA}
theorem sQ {pins:List (Addr×Obj)} {σ:St} {H:Hp} {s:Shared} {Q:VK} {us:List Value} {vs:List V} (F:jA X.prog X.w X.K X.mg X.base CX k f fd ps sp) (hr:fk k X.A) (hb:Binds X.K fd ps ds) (hd:Vals oq ds) (hx:Passes CX X E)
  (I:Inv X pins σ H s) (r:Vals vs us) (h:sp (vs++oq) H Q E):wpAny (model X.prog X.w) X.A (call (.ref f) us) (EP X pins σ Q) X.xe s:=by
 have r2:Vals (vs++oq) (us++ds):=r.append hd;have hl:(us++ds).length=ps.length:=by rw[←r2.length];exact F.len _ _ _ _ h
 refine wpAny_call (codeAny_mono (F.run X.A X.stack s H ⟨us,[]⟩ (us++ds) (vs++oq) Q E hr I.Vp (hb s us I.qO hl) r2 h) fun r s' hq=>?_);cases r with
 | error e=>exact hx pins σ H s e s' I hq
 | ok fl =>
  cases fl with
  | ret u=>exact I.after hq
  | next=>exact False.elim hq
  | brk=>exact False.elim hq
  | cont=>exact False.elim hq
theorem HN (F:jA X.prog X.w X.K X.mg X.base CX k f fd ps sp) (hr:fk k X.A) (hg:Gl X x) (hm:X.mg x=some (.ref f)) (hk:PySem.W.keepIn X.K (.ref f)=true) (hb:Binds X.K fd ps ds) (hd:Vals oq ds) (hx:Passes CX X E)
  (ha:PA X (e::es) t) (pV:autoParam ((x==("__debug__":Str))=false) ig) (he:autoParam (starEach (e::es) X.env=(false,eval e X.env)::starEach es X.env) cW) (gH:autoParam ((backTo pos (starEach es X.env)).any (·.1)=false) cW) :
  PE X (.Call (.Name x p) (e::es) [] pos) (rm sp oq E t):=by
 intro pins s σ H Q I h;refine wpAny_Call_Name_kw (kc I hg hm ?_ pV);refine PySem.W.callWith_K (h₀:=X.base) I.ok.mod.vG hk (dA (ha pos pins s σ H _ I h) fun us s1 ⟨vs,H1,I1,r,q⟩=>⟨I1.qO,?_⟩) he gH;exact sQ F hr hb hd hx I1 r q
theorem Nu (F:jA X.prog X.w X.K X.mg X.base CX k f fd ps sp) (hr:fk k X.A) (hg:Gl X x) (hm:X.mg x=some (.ref f)) (hk:PySem.W.keepIn X.K (.ref f)=true) (hb:Binds X.K fd ps ds) (hd:Vals oq ds) (hx:Passes CX X E)
  (pV:autoParam ((x==("__debug__":Str))=false) ig):PE X (.Call (.Name x p) [] [] pos) (rm sp oq E ER):=by
 intro pins s σ H Q I h;refine wpAny_Call_Name_kw (kc I hg hm ?_ pV);exact PySem.W.callWith_K0 I.qO hk (sQ (us:=[]) F hr hb hd hx I .nil h)
theorem HP {pl:Sem Bool} (he:PE X o ta) (c:zx X.K C) (hm:EO X.K C m f) (F:jA X.prog X.w X.K X.mg X.base CX k f fd ps sp) (hr:fk k X.A) (hb:Binds X.K fd ps ds) (hd:Vals oq ds) (hx:Passes CX X E) (ha:PA X (e::es) t)
  (qQ:autoParam (starEach (e::es) X.env=(false,eval e X.env)::starEach es X.env) cW) (gH:autoParam ((backTo pos (starEach es X.env)).any (·.1)=false) cW)
  (ht:autoParam (eval (.Call (.Attribute o m apos) (e::es) [] pos) X.env=(do
   let ov ←eval o X.env
   standAt apos.atName
   let (f,first) ←holding [ov] (getMethod ov m pl)
   callWith pos f first (backTo pos (starEach (e::es) X.env)) (backToKw pos (keywordEach [] X.env)))) cW) :
  PE X (.Call (.Attribute o m apos) (e::es) [] pos) (Ku C m sp oq E ta t):=by
 intro pins s σ H Q I h;refine PySem.W.methodCall_KW (pl:=pl) (dA (he pins s σ H _ I h) fun u s1 ⟨x,H1,I1,rx,a,dx,fs,ex,ea,l,q⟩=>?_) ht;subst ex;obtain rfl:u=Value.ref a:=rx;refine nN I1 ea c hm l ?_;refine PySem.W.callWith_K (first:=[.ref a]) (h₀:=X.base) I.ok.mod.vG hm.kp (dA (ha pos pins s1 σ H1 _ I1 q) fun us s2 ⟨vs,H2,I2,r,q2⟩=>⟨I2.qO,?_⟩) qQ gH;exact sQ (us:=.ref a::us) (vs:=.ref a::vs) F hr hb hd hx I2 (.cons rfl r) q2
structure Mk (K:aP) (C f:Addr):Prop where
 makes:PySem.W.makesIn K C=true
 init:PySem.W.findIn K (.ref C) "__init__"=some (some (.ref f))
 fn:PySem.W.isFn K (.ref f)=true
 kp:PySem.W.keepIn K (.ref C)=true
theorem ET {pins:List (Addr×Obj)} {σ:St} {H:Hp} {s:Shared} {Q:VK} {us:List Value} {vs:List V} (M:Mk X.K C f) (F:jA X.prog X.w X.K X.mg X.base CX k f fd ps sp) (hr:fk (k+1) X.A) (hb:Binds X.K fd ps ds) (hd:Vals oq ds)
  (hx:Passes CX X E) (I:Inv X pins σ H s) (r:Vals vs us)
  (h:∀x dx,H x=none→H dx=none→dx≠x→sp (.ref x::(vs++oq)) (upd (upd H dx (.own x)) x (.ins C dx [])) (fun v H2=>v=.fV∧Q (.ref x) H2) E) :
  wpAny (model X.prog X.w) X.A (call (.ref C) us) (EP X pins σ Q) X.xe s:=by
 have hq:=h (s.heap.objs.size+1) s.heap.objs.size (I.du.fresh (Nat.le_succ _)) (I.du.fresh (bB _)) (dJ (EN _));have I2:=Inv.made (C:=C) I;have r2:Vals (V.ref (s.heap.objs.size+1)::(vs++oq)) (Value.ref (s.heap.objs.size+1)::(us++ds)):=.cons rfl (r.append hd);have hl:(Value.ref (s.heap.objs.size+1)::us++ds).length=ps.length:=by
  have e:=r2.length;rw[F.len _ _ _ _ hq] at e;exact e.symm
 refine wpAny_call (Nt (f:=f) I.qO M.makes M.init (dF.mp M.fn) (codeAny_mono (F.run _ X.stack _ _ ⟨Value.ref (s.heap.objs.size+1)::us,[]⟩ (Value.ref (s.heap.objs.size+1)::(us++ds)) _ _ E (hr.make C us [])
  (I2.Vp.make C us []) (hb _ (Value.ref (s.heap.objs.size+1)::us) I2.qO hl) r2 hq) fun r s' FV=>?_))
 cases r with
 | error e=>exact hx pins σ _ _ e s' I2 FV
 | ok fl =>
  cases fl with
  | ret u =>
   obtain⟨v,H',I3,rv,ev,q3⟩:=I2.after FV;subst ev;exact⟨rv,⟨V.ref (s.heap.objs.size+1),H',I3,rfl,q3⟩⟩
  | next=>exact False.elim FV
  | brk=>exact False.elim FV
  | cont=>exact False.elim FV
theorem Nv (M:Mk X.K C f) (F:jA X.prog X.w X.K X.mg X.base CX k f fd ps sp) (hr:fk (k+1) X.A) (hg:Gl X x) (hm:X.mg x=some (.ref C)) (hb:Binds X.K fd ps ds) (hd:Vals oq ds) (hx:Passes CX X E)
  (pV:autoParam ((x==("__debug__":Str))=false) ig):PE X (.Call (.Name x p) [] [] pos) (PQ C sp oq E ER):=by
 intro pins s σ H Q I h;refine wpAny_Call_Name_kw (kc I hg hm ?_ pV);exact PySem.W.callWith_K0 I.qO M.kp (ET (us:=[]) M F hr hb hd hx I .nil h)
end
section
variable {X:Cx} {CX:vP} {k:Nat} {f C:Addr} {fd:FuncData} {ps ks:List Str} {sp:Sp} {E:XK} {x m:Str} {p pos apos aeO:Pos} {e o:Expr} {es:List Expr} {kws:List Keyword} {te ta:TE} {t tk:TA} {nm:Option Str}
variable {g:List Value→List Value→List Value} {gV:List V→List V→List V}
end
structure aD (N P:List Str) (sc:Scope):Prop where
 kind:sc.kind=.function
 co:sc.isCoroutine=false
 gen:sc.isGenerator=false
 nd:N.Nodup
 pre:N.take P.length=P
 par:∀x∈P,sc.names.lookup x=some .local∨sc.names.lookup x=some .cell
 SW:∀y∈sc.names,y.2≠.free
theorem A6 {kindOf:Str→Option NameKind} {x:Str}:∀{binds:List (Str×Value)} {m:Str→Option Value},(∀v,(x,v)∉binds)→bindL kindOf binds m x=m x
 | [],_,_=>rfl
 | (n,v)::r,m,h=>by
  unfold bindL;rw[A6 fun w hw=>h w (dw _ hw)];split
  ·have:x≠n:=by rintro rfl;exact h v fD
   simp[this]
  ·rfl
theorem A8 {kindOf:Str→Option NameKind} {x:Str}:∀{binds:List (Str×Value)} {m:Str→Option Value},(∀v,(x,v)∉binds)→bindC kindOf binds m x=m x
 | [],_,_=>rfl
 | (n,v)::r,m,h=>by
  unfold bindC;rw[A8 fun w hw=>h w (dw _ hw)];split
  ·rfl
  ·have:x≠n:=by rintro rfl;exact h v fD
   simp[this]
theorem A9 {kindOf:Str→Option NameKind} {x:Str} {v:Value}:∀{P:List Str} {vs:List Value} {i:Nat} {m:Str→Option Value},P.Nodup→P[i]?=some x→vs[i]?=some v→kindOf x=some .local →
  bindL kindOf (P.zip vs) m x=some v
 | [],_,_,_,_,h,_,_=>by simp at h
 | _::_,[],_,_,_,_,h,_=>by simp at h
 | p::P,w::vs,0,m,nd,h1,h2,hk=>by
  simp at h1 h2;subst h1;subst h2;show bindL kindOf ((p,w)::P.zip vs) m p=_;unfold bindL;rw[A6 fun v hv=>(zr.mp nd).1 (tY hv).1,ao hk];simp
 | p::P,w::vs,i+1,m,nd,h1,h2,hk=>by
  show bindL kindOf ((p,w)::P.zip vs) m x=_;unfold bindL;exact A9 (i:=i) (zr.mp nd).2 (by simpa using h1) (by simpa using h2) hk
theorem Ba {kindOf:Str→Option NameKind} {x:Str} {v:Value}:∀{P:List Str} {vs:List Value} {i:Nat} {m:Str→Option Value},P.Nodup→P[i]?=some x→vs[i]?=some v→kindOf x≠some .local →
  bindC kindOf (P.zip vs) m x=some v
 | [],_,_,_,_,h,_,_=>by simp at h
 | _::_,[],_,_,_,_,h,_=>by simp at h
 | p::P,w::vs,0,m,nd,h1,h2,hk=>by
  simp at h1 h2;subst h1;subst h2;show bindC kindOf ((p,w)::P.zip vs) m p=_;unfold bindC;rw[A8 fun v hv=>(zr.mp nd).1 (tY hv).1,ag hk];simp
 | p::P,w::vs,i+1,m,nd,h1,h2,hk=>by
  show bindC kindOf ((p,w)::P.zip vs) m x=_;unfold bindC;exact Ba (i:=i) (zr.mp nd).2 (by simpa using h1) (by simpa using h2) hk
def start (N:List Str) (vs:List V):St:=vs.map some++List.replicate (N.length-vs.length) none
def vQ (CX:vP) (P:Program) (w:World) (K:aP) (mg:Str→Option Value) (base:Heap) (N:List Str) (qual:Str) (scope:Scope) (f:Addr) (cd:Value) (A:Around) (outer:List Env) (s:Shared) (H:Hp) (E:XK):Cx where
 prog:=P
 w:=w
 K:=K
 mg:=mg
 base:=base
 A:=A.deeper (envOfC qual scope s.heap.objs.size f cd)
 N:=N
 oM:=s
 Pk:=H
 env:=envOfC qual scope s.heap.objs.size f cd
 outer:=outer
 stack:=envOfC qual scope s.heap.objs.size f cd::outer
 ex:=[]
 calm:=true
 fn:=fun _=>true
 pn:=[]
 xe:=fun e s'=>wpAny (model P w) (A.deeper (envOfC qual scope s.heap.objs.size f cd)) (leaving (envOfC qual scope s.heap.objs.size f cd) e) (fun _ Wk=>CX outer H s E e Wk) (fun e' Wk=>CX outer H s E e' Wk) s'
theorem EU {sc:Scope} {n:Nat} {x:Str} (h:sc.names.lookup x=some .cell):∃c,(cellsFrom n sc.names []).lookup x=some c:=by
 have q:=PySem.W.cellsFrom_some sc.names n [] (.inl h);exact Option.isSome_iff_exists.mp q
theorem Kv {CX:vP} {P:Program} {w:World} {K:aP} {mg:Str→Option Value} {base:Heap} {N ps:List Str} {qual:Str} {scope:Scope} {f:Addr} {cd:Value} {A:Around} {outer:List Env} {s s1:Shared} {H:Hp} {E:XK} {us:List Value} {vs:List V}
  (S:aD N ps scope) (hd:A.handled=none) (e0:A5 P w K mg base A outer s H) (hl:vs.length=ps.length) (r:Vals vs us)
  (x:InCallC s s.heap.objs.size (bindL (envOfC qual scope s.heap.objs.size f cd).kindOf (ps.zip us) fun _=>none) (cellsFrom (s.heap.objs.size+1) scope.names []) (bindC (envOfC qual scope s.heap.objs.size f cd).kindOf (ps.zip us) fun _=>none) s1) :
  Inv (vQ CX P w K mg base N qual scope f cd A outer s H E) [] (start N vs) H s1:=by
 have gH:ps.length≤N.length:=by have:=a7 List.length S.pre;rw[fN] at this;omega
 obtain⟨h1,tk,rfl,hk⟩:=x.done;have Nw:∀b:Addr,b∉(vQ CX P w K mg base N qual scope f cd A outer s H E).ex:=fun b z=>absurd (show b∈([]:List Addr) from z) (by simp);refine⟨⟨e0.mod,S.kind,rfl,rfl,bB _,fun y z c h1 h2=>?_,fun y hy=>?_,fun y c _ h=>?_,fun _=>hd,Around.frames_deeper e0.frames,.inr ⟨rfl,rfl⟩,fun b z=>absurd z (Nw b),e0.bs,e0.zt,fun b _ _=>Nw b,fun b z=>absurd z (Nw b),e0.mr,e0.DM⟩,
  rfl,e0.bare,Un.kept hk,⟨_,x.toInCall.ns,fun i y v h1 h2 h3=>?_⟩,fun y c h=>⟨_,x.cell y c h⟩,e0.du.fresh (bB _),fun y c h=>?_,fun p hp=>absurd (show p∈([]:List (Addr×Obj)) from hp) (by simp),e0.du.kept hk,?_⟩
 ·exact name_of_addr x.apart (PySem.mem_of_lookup h1) (PySem.mem_of_lookup h2)
 ·have hy:scope.names.lookup y=some .cell∨scope.names.lookup y=some .free:=hy;rcases hy with hy | hy
  ·exact EU hy
  ·exact absurd rfl (S.SW _ (PySem.mem_of_lookup hy))
 ·exact my (x.above y c (PySem.mem_of_lookup h))
 ·have hi:i<vs.length:=by
   unfold start at h2;by_cases hi:i<vs.length
   ·exact hi
   ·rw[uh (by simpa using hi)] at h2;rw[ES] at h2;split at h2<;>cases h2
  have ha:vs[i]?=some v:=by
   unfold start at h2;rw[uk (by simpa using hi),aT] at h2;cases e:vs[i]? with
   | none=>rw[e] at h2;cases h2
   | some a=>rw[e] at h2;cases h2;rfl
  obtain⟨u,hu,rv⟩:=r.get ha;have hp:ps[i]?=some y:=by
   rw[←S.pre,List.getElem?_take_of_lt Kk];exact h1
  have YV:ps.Nodup:=by rw[←S.pre];exact S.nd.sublist (List.take_sublist _ _)
  refine⟨u,rv,?_⟩;rcases S.par y (uq hp) with k | k
  ·exact .inl ⟨k,A9 YV hp hu k⟩
  ·obtain⟨c,e⟩:=EU (n:=s.heap.objs.size+1) k;refine .inr ⟨.inl k,c,e,?_⟩;have q:=x.cell y c e;rw[Ba YV hp hu (by show scope.names.lookup y≠_;rw[k];decide)] at q;exact q
 ·exact e0.du.fresh (my (x.above y c (PySem.mem_of_lookup h)))
 ·unfold start;show _=N.length;rw[cT,aF,List.length_replicate];omega
theorem PR {CX:vP} {P:Program} {w:World} {K:aP} {mg:Str→Option Value} {base:Heap} {k:Nat} {f:Addr} {name qual:Str} {params:Arguments} {body:List Stmt} {scope:Scope} {dV kV doc pm bw ct oc:Value} {an od:Option Addr}
  {nq:Array (Option Value)} {N ps:List Str} {sp:Sp} (lk:K.lookup f=some ⟨oc,od,.func (PySem.W.fnOf name qual params body scope dV kV doc pm an bw ct),nq⟩) (AU:PySem.W.codeIn K bw qual=true) (S:aD N ps scope)
  (len:∀vs H Q E,sp vs H Q E→vs.length=ps.length)
  (pW:∀(A:Around) (outer:List Env) (s:Shared) (H:Hp) (vs:List V) (Q:VK) (E:XK),fk k (A.deeper (envOfC qual scope s.heap.objs.size f bw))→sp vs H Q E →
   ∃t,qP (vQ CX P w K mg base N qual scope f bw A outer s H E) body t∧t { nx:=fun _ H'=>Q .fV H',rt:=Q } (start N vs) H) :
  jA P w K mg base CX (k+1) f (PySem.W.fnOf name qual params body scope dV kV doc pm an bw ct) ps sp:=by
 refine⟨len,fun A outer s H args us vs Q E hr e0 hb r zy=>?_⟩;have hl:=len _ _ _ _ zy;have KX:K.In s.heap:=e0.mod.vG.keeps fun b o e=>(e0.bs b o e).1;have lim:s.heap.NoLimit:=e0.mod.nolimit.keeps fun b o e=>(e0.bs b o e).1;have Wl:∀y∈ps.zip us,scope.names.lookup y.1=some .local∨(scope.names.lookup y.1=some .cell∧((cellsFrom (s.heap.objs.size+1) scope.names []).lookup y.1).isSome=true):=fun ⟨n,v⟩ hy=>by
  rcases S.par n (tY hy).1 with q | q
  ·exact .inl q
  ·exact .inr ⟨q,PySem.W.cellsFrom_some _ _ _ (.inl q)⟩
 refine codeAny_call_function hr.depth (KX _ _ lk) rfl S.co S.gen rfl (PySem.W.codeRec_of KX AU) (hb _ _ _ _ ?_);refine wpAny_newFunctionEnv_cells S.kind Wl fun env he s1 x=>?_;subst he;refine⟨lim.keeps x.toInCall.keep,codeAny_func ?_⟩;obtain⟨t,ht,hq⟩:=pW A outer s H vs Q E (hr.deeper _) zy;have I:Inv (vQ CX P w K mg base N qual scope f bw A outer s H E) [] (start N vs) H s1:=Kv S hr.hd e0 hl r x;refine wpAny_mono (ht [] s1 (start N vs) H _ I hq) (fun fl s' hs=>?_) fun e s' hs=>hs;have fin:∀{σ':St} {H':Hp} {v:V} {u:Value},Inv (vQ CX P w K mg base N qual scope f bw A outer s H E) [] σ' H' s'→RelV v u→Q v H'→CE outer P w H s Q u s' :=
  fun {σ' H' v u} J rv q=>⟨v,H',J.os,J.bare,J.base,J.du,rv,q⟩
 cases fl with
 | ret u =>
  obtain⟨v,σ',H',J,rv,q⟩:=hs;exact fin J rv q
 | next =>
  obtain⟨σ',H',J,q⟩:=hs;exact fin (v:=V.fV) (u:=Value.none) J rfl q
 | brk =>
  obtain⟨_,_,_,q⟩:=hs;exact False.elim q
 | cont =>
  obtain⟨_,_,_,q⟩:=hs;exact False.elim q
end L2
namespace L2
open PySem PySem.Spec PyProof.Rows
section
variable {X:Cx} {x:Str} {p pos:Pos} {e:Expr} {es:List Expr} {t:TA} {id T:String} {r:List V→Hp→VK→Prop}
def tCB (r:List V→Hp→VK→Prop) (t:TA):TE:=fun σ H Q=>t σ H fun vs H1=>r vs H1 Q
theorem bW (hc:pS X (.builtin id) r) (hg:Gl X x) (hm:X.mg x=none) (hv:bootBuiltins x=some (.builtin id)) (ha:PA X (e::es) t) (hn:autoParam (x≠"__name__") ig) (pV:autoParam ((x==("__debug__":Str))=false) ig)
  (he:autoParam (starEach (e::es) X.env=(false,eval e X.env)::starEach es X.env) cW) (gH:autoParam ((backTo pos (starEach es X.env)).any (·.1)=false) cW):PE X (.Call (.Name x p) (e::es) [] pos) (tCB r t):=by
 intro pins s σ H Q I h;refine wpAny_Call_Name_kw (sI I hg hm hv ?_ hn pV);exact PyProof.Rows.callWith_builtin1 (dA (ha pos pins s σ H _ I h) fun us s1 ⟨vs,H1,I1,r1,q1⟩=>hc pins s1 σ H1 vs us Q I1 r1 q1) he gH
end
end L2
namespace HT
open PySem PyProof.Rows
section
open PySem.SeqAt
open PySem.AutoSeq1 (wpAny_loadPart')
open PySem.MeetsSeq PySem.MeetsSeq2 PySem.MeetsSeq3
end
section
variable {prog:Program} {w:World} {A:Around} {E:Value→Shared→Prop} {s:Shared}
def fI (n d:Nat):Option Int→Nat
 | none=>d
 | some v=>if v<0 then (v+(n:Int)).toNat else min v.toNat n
theorem sT (n d:Nat):fI n d none=d:=rfl
theorem oT (n d k:Nat):fI n d (some (k:Int))=min k n:=by
 show (if (k:Int)<0 then ((k:Int)+(n:Int)).toNat else min (k:Int).toNat n)=min k n;rw[ag Kk,aN]
theorem SX (n d:Nat) (hd:d≤n) (o:Option Int):fI n d o≤n:=by
 cases o with
 | none=>exact hd
 | some v =>
  show (if v<0 then (v+(n:Int)).toNat else min v.toNat n)≤n;by_cases hv:v<0
  ·rw[ao hv];omega
  ·rw[ag hv];exact Nat.min_le_right _ _
theorem HQ (v:Int) (n d:Nat):(if v<0 then max (v+(n:Int)) 0 else min v (n:Int))=((fI n d (some v):Nat):Int):=by
 show (if v<0 then max (v+(n:Int)) 0 else min v (n:Int))=(((if v<0 then (v+(n:Int)).toNat else min v.toNat n):Nat):Int);by_cases hv:v<0
 ·simp only[ao hv];omega
 ·simp only[ag hv];omega
theorem HR (lo hi:Option Int) (n:Nat):Builtin.Slice.sliceAdjust lo hi 1 (n:Int)=(((fI n 0 lo:Nat):Int),((fI n n hi:Nat):Int)):=by
 have h1:¬((1:Int)<0):=by omega
 unfold Builtin.Slice.sliceAdjust;simp only[h1,aM];refine Prod.ext ?_ ?_
 ·cases lo with
  | none=>rfl
  | some v=>exact HQ v n 0
 ·cases hi with
  | none=>rfl
  | some v=>exact HQ v n n
theorem HS (i j:Nat):Builtin.Slice.slicePlaces (i:Int) (j:Int) 1=j-i:=by
 unfold Builtin.Slice.slicePlaces;have h1:(1:Int)>0:=by omega
 simp only[h1,aJ,Int.ediv_one];split<;>omega
theorem yM {v:Value} {o:Option Int} {Q:Option Int→Shared→Prop} (p:IsPart v o) (h:Q o s):wpAny (model prog w) A (Builtin.Slice.slicePartIndex v) Q E s:=by
 cases p with
 | none=>exact slicePart_none h
 | int i t=>exact slicePart_int h
theorem vR {sl:Addr} {vl vu:Value} {lo hi:Option Int} {n:Nat} {Q:Int×Int×Nat→Shared→Prop} (hs:s.heap.IsSliceOf sl vl vu .none) (pl:IsPart vl lo) (pu:IsPart vu hi)
  (h:Q (((fI n 0 lo:Nat):Int),1,fI n n hi-fI n 0 lo) s):wpAny (model prog w) A (Builtin.Slice.sliceApplied (.ref sl) (pure (n:Int))) Q E s:=by
 obtain⟨os,PU,PV,SY⟩:=id hs;unfold Builtin.Slice.sliceApplied Builtin.Slice.sliceFields;refine wpAny_bind (wpAny_bind (wpAny_field PU SY (x:=vl) rfl (wpAny_bind (wpAny_field PU SY (x:=vu) rfl (wpAny_bind (wpAny_field PU SY (x:=.none) rfl (wpAny_pure ?_)))))));refine wpAny_bind (slicePart_none ?_);show wpAny _ _ (if ((1:Int)==0)=true then _ else _) _ _ s;rw[ag Ke];refine wpAny_bind (yM pl (wpAny_bind (yM pu (wpAny_bind (wpAny_pure ?_)))));show wpAny _ _ (match Builtin.Slice.sliceAdjust lo hi 1 (n:Int) with | (lo,hi)=>pure (lo,(1:Int),Builtin.Slice.slicePlaces lo hi 1)) _ _ s;rw[HR lo hi n];show wpAny _ _ (pure (((fI n 0 lo:Nat):Int),(1:Int),Builtin.Slice.slicePlaces ((fI n 0 lo:Nat):Int) ((fI n n hi:Nat):Int) 1)) _ _ s;rw[HS];exact wpAny_pure h
theorem Ny (xs:Array Value) (i k:Nat):((List.range k).filterMap fun (m:Nat)=>xs[((i:Int)+(m:Int)*1).toNat]?).toArray=((xs.toList.drop i).take k).toArray:=by
 have e:(fun (m:Nat)=>xs[((i:Int)+(m:Int)*1).toNat]?)=fun m=>xs[i+m]?:=by
  funext m;have:((i:Int)+(m:Int)*1).toNat=i+m:=by omega
  rw[this]
 rw[e];have:=pick_run xs i k;rw[List.filterMap_map] at this;have e2:((fun x=>xs[x]?) ∘ fun x=>i+x)=fun m=>xs[i+m]?:=rfl;rw[e2] at this;rw[this]
theorem uJ {t sl:Addr} {items:Array Value} {vl vu:Value} {lo hi:Option Int} {Q:Value→Shared→Prop} (ht:IsTup s.heap t items) (hs:s.heap.IsSliceOf sl vl vu .none) (pl:IsPart vl lo) (pu:IsPart vu hi)
  (hw:¬(fI items.size 0 lo=0∧fI items.size items.size hi=items.size))
  (h:Q (.ref s.heap.objs.size) { s with heap:=s.heap.push { cls:=.type "tuple",data:=.seq ((items.toList.drop (fI items.size 0 lo)).take (fI items.size items.size hi-fI items.size 0 lo)).toArray } })
  (hsz:items.size≤sizeLine):wpAny (model prog w) A (getItem (.ref t) (.ref sl)) Q E s:=by
 have FW:sizeOk (.seq ((items.toList.drop (fI items.size 0 lo)).take (fI items.size items.size hi-fI items.size 0 lo)).toArray):=by
  show ((items.toList.drop (fI items.size 0 lo)).take (fI items.size items.size hi-fI items.size 0 lo)).toArray.size≤sizeLine;rw[cz,fN,ez,yS];omega
 have hj:fI items.size items.size hi≤items.size:=SX _ _ (bB _) hi;obtain⟨os,PU,PV,SY⟩:=id hs;have hTs:s.TypeIs (.ref sl) "slice":=⟨os,PU,PV⟩;unfold getItem
 try with_reducible refine wpAny_holding ?_
 first | refine wpAny_bind (wpAny_pure ?_) | skip
 refine wpAny_bind (wpAny_sequenceKey ht.typeIs Ke ?_);refine wpAny_bind (wpAny_callSpecial?_slot (name:=Str.ofString "__getitem__") ht.typeIs E1
  (wpAny_call_entry E1 ht.typeIs entry_tuple_getitem ?_ (args_tuple_getitem _ _)))
 show wpAny _ _ (Builtin.Tuple.tupleItemsOf (.ref t) >>= _) _ _ s;refine wpAny_bind (tupleItemsOf_ ht ?_);refine wpAny_bind (wpAny_typeOf hTs ?_);rw[ao Ke];refine wpAny_bind (vR hs pl pu ?_);have PX:¬((((fI items.size 0 lo:Nat):Int)==0&&(1:Int)==1&&(fI items.size items.size hi-fI items.size 0 lo)==items.size)=true):=by
  intro q;rw[b5,b5] at q;have q1:((fI items.size 0 lo:Nat):Int)=0:=eq_of_beq q.1.1;have q2:fI items.size items.size hi-fI items.size 0 lo=items.size:=eq_of_beq q.2;exact hw ⟨Kk,Kk⟩
 show wpAny _ _ (if (((fI items.size 0 lo:Nat):Int)==0&&(1:Int)==1&&(fI items.size items.size hi-fI items.size 0 lo)==items.size)=true then _ else _) _ _ s;rw[ag PX,Ny]
 first
  | exact wpAny_bind (m:=Builtin.Tuple.tupleExact _) (wpAny_newObj_type (wpAny_pure ⟨_,rfl,wpAny_pure h⟩) FW)
  | exact wpAny_bind (m:=Builtin.Tuple.tupleExact _) (wpAny_newObj_type (wpAny_bind (wpAny_pure (wpAny_pure ⟨_,rfl,wpAny_pure h⟩))) FW)
  | exact wpAny_bind (wpAny_bind (m:=Builtin.Tuple.tupleExact _) (wpAny_newObj_type (wpAny_pure (wpAny_pure ⟨_,rfl,wpAny_pure h⟩)) FW))
  | exact wpAny_bind (wpAny_bind (m:=Builtin.Tuple.tupleExact _) (wpAny_newObj_type (wpAny_pure ⟨_,rfl,wpAny_pure h⟩) FW))
end
end HT
namespace L2
open PySem PySem.Spec PyProof.Rows
abbrev TO:=St→Hp→(Option Int→Hp→Prop)→Prop
def PO (X:Cx) (e:Option Expr) (t:TO):Prop :=
 ∀(pins:List (Addr×Obj)) (s:Shared) (σ:St) (H:Hp) (Q:Option Int→Hp→Prop),Inv X pins σ H s→t σ H Q →
  wpAny (model X.prog X.w) X.A (evalPart e X.env) (fun u s'=>∃o H',Inv X pins σ H' s'∧IsPart u o∧Q o H') X.xe s
def PY:TO:=fun _ H Q=>Q none H
def Wm (t:TE):TO:=fun σ H Q=>t σ H fun x H1=>∃i,x=.int i∧Q (some i) H1
section
variable {X:Cx} {e:Expr} {te:TE} {lo hi:Option Expr} {tl th:TO} {pos p2:Pos}
theorem ja:PO X none PY:=by
 intro pins s σ H Q I h;rw[evalPart_none];exact wpAny_pure ⟨none,H,I,.none,h⟩
theorem dT (h:PE X e te):PO X (some e) (Wm te):=by
 intro pins s σ H Q I hw;rw[evalPart_some];refine dA (h pins s σ H _ I hw) fun u s1 ⟨x,H1,I1,r1,q1⟩=>?_;obtain⟨i,rfl,q⟩:=q1;obtain⟨t,rfl⟩:=r1;exact⟨some i,H1,I1,.int i t,q⟩
def SZ (X:Cx) (r:V→Option Int→Option Int→Hp→VK→Prop):Prop :=
 ∀(pins:List (Addr×Obj)) (s:Shared) (σ:St) (H:Hp) (x:V) (v vl vu:Value) (lo hi:Option Int) (sl:Addr) (Q:VK),Inv X pins σ H s→RelV x v→s.heap.IsSliceOf sl vl vu .none→IsPart vl lo→IsPart vu hi→r x lo hi H Q →
  ∃T id,typeLookup (.type T) "__getitem__"=pure (some (.builtin id))∧s.TypeIs v T∧wpAny (model X.prog X.w) X.A (getItem v (.ref sl)) (EP X pins σ Q) X.xe s
def tSl (r:V→Option Int→Option Int→Hp→VK→Prop) (te:TE) (tl th:TO):TE:=fun σ H Q=>te σ H fun x H1=>tl σ H1 fun l H2=>th σ H2 fun u H3=>r x l u H3 Q
theorem eW {r:V→Option Int→Option Int→Hp→VK→Prop} (hr:SZ X r) (he:PE X e te) (hl:PO X lo tl) (hu:PO X hi th):PE X (.Subscript e (.Slice lo hi none p2) pos) (tSl r te tl th):=by
 intro pins s σ H Q I h;refine Subscript_ (dA (he pins s σ H _ I h) fun v s1 ⟨x,H1,I1,r1,q1⟩=>?_);refine wpAny_Slice (dA (hl pins s1 σ H1 _ I1 q1) fun vl s2 ⟨l,H2,I2,pl,q2⟩=>dA (hu pins s2 σ H2 _ I2 q2) fun vu s3 ⟨u,H3,I3,pu,q3⟩=>?_);rw[evalPart_none];refine wpAny_pure ?_;have I4:Inv X pins σ H3 { s3 with heap:=s3.heap.push { cls:=.type "slice",data:=.fields #[vl,vu,.none] } }:=I3.kept (t':=s3.toks) fun b ob q=>Heap.get?_push_of_some _ q;obtain⟨T,id,hT,ht,hg⟩:=hr pins { s3 with heap:=s3.heap.push { cls:=.type "slice",data:=.fields #[vl,vu,.none] } } σ H3 x v vl vu l u s3.heap.objs.size Q I4 r1 (Heap.IsSliceOf.new ..) pl pu q3;show wpAny (model X.prog X.w) X.A (subscriptTail e (.Slice lo hi none p2) v (.ref s3.heap.objs.size)) (EP X pins σ Q) X.xe { s3 with heap:=s3.heap.push { cls:=.type "slice",data:=.fields #[vl,vu,.none] } };exact tail_any (ops:=[.ref s3.heap.objs.size,v]) ht hT hg (by with_unfolding_all rfl)
def gc (xs:List V) (lo hi:Option Int):List V:=(xs.drop (HT.fI xs.length 0 lo)).take (HT.fI xs.length xs.length hi-HT.fI xs.length 0 lo)
theorem vS (xs:List V) (lo hi:Option Int):(gc xs lo hi).length≤xs.length:=by
 unfold gc;rw[fN,ez];omega
def YW (K:aP):V→Option Int→Option Int→Hp→VK→Prop:=fun x lo hi H Q=>∃a xs,x=.ref a∧j5 K H a xs ∧
 ¬(HT.fI xs.length 0 lo=0∧HT.fI xs.length xs.length hi=xs.length)∧∀p,H p=none→Q (.ref p) (upd H p (.tup (gc xs lo hi)))
theorem S3:SZ X (YW X.K):=by
 intro pins s σ H x v vl vu lo hi sl Q I rx hs pl pu h;obtain⟨a,xs,rfl,hx,hw,q⟩:=h;cases rx;obtain⟨bq,r,ht,hz⟩:=I.tuple hx;have hlen:bq.toArray.size=xs.length:=by rw[cz];exact r.length.symm
 refine⟨"tuple",_,E1.lookup,ht.typeIs,?_⟩;refine HT.uJ ht hs pl pu (by rw[hlen];exact hw) ?_ (by rw[hlen];exact hz);rw[hlen];refine⟨.ref s.heap.objs.size,_,I.laid (t':=s.toks) (o:=.tup (gc xs lo hi)) (fun b ob q=>Heap.get?_push_of_some _ q) (bB _) ?_,rfl,q _ (I.du.fresh (bB _))⟩;exact⟨bZ (vS xs lo hi) hz,_,(r.drop (HT.fI xs.length 0 lo)).take (HT.fI xs.length xs.length hi-HT.fI xs.length 0 lo),IsTup.new _ _⟩
end
end L2
namespace L2
open PySem PySem.Spec PyProof.Rows
def xO (n:Nat) (i:Int):Option Nat:=if 0≤i then (if i<n then some i.toNat else none) else if -(n:Int)≤i then some (i+n).toNat else none
def lD {α:Type} (xs:List α) (i:Int):Option α:=(xO xs.length i).bind fun j=>xs[j]?
theorem HU {n:Nat} {i:Int} {j:Nat} (h:xO n i=some j):seqIndex? i n=some j∧j<n∧-(n:Int)≤i∧i<n:=by
 unfold xO at h;by_cases h0:0≤i
 ·rw[ao h0] at h;by_cases h1:i<n
  ·rw[ao h1] at h;have e:i.toNat=j:=bM h;exact⟨by rw[seqIndex_of h0 h1,e],Kk,Kk,h1⟩
  ·rw[ag h1] at h;cases h
 ·rw[ag h0] at h;by_cases h1:-(n:Int)≤i
  ·rw[ao h1] at h;have e:(i+n).toNat=j:=bM h;exact⟨by rw[seqIndex_neg Kk h1,e],Kk,h1,Kk⟩
  ·rw[ag h1] at h;cases h
theorem HV {α:Type} {xs:List α} {i:Int} {v:α} (h:lD xs i=some v):∃j,seqIndex? i xs.length=some j∧xs[j]?=some v∧j<xs.length∧-(xs.length:Int)≤i∧i<xs.length:=by
 unfold lD at h;cases e:xO xs.length i with
 | none=>rw[e] at h;cases h
 | some j =>
  rw[e] at h;obtain⟨h1,h2,h3,h4⟩:=HU e;exact⟨j,h1,h,h2,h3,h4⟩
def Bb (b:Expr):Prop:=∀o i,subscripted b false o i=operate [o,i] (getItem o i)
def S4 (X:Cx) (r:R2):Prop :=
 ∀(value slice:Expr) (pins:List (Addr×Obj)) (s:Shared) (σ:St) (H:Hp) (x y:V) (v u:Value) (Q:VK),Inv X pins σ H s→RelV x v→RelV y u→r x y H Q →
  subscripted slice false v u=operate [v,u] (getItem v u)→wpAny (model X.prog X.w) X.A (subscriptTail value slice v u) (EP X pins σ Q) X.xe s
def YX (X:Cx) (id:String) (r:V→List V→Hp→VK→Prop):Prop :=
 ∀(pins:List (Addr×Obj)) (s:Shared) (σ:St) (H:Hp) (x:V) (xs:List V) (v:Value) (us:List Value) (Q:VK),Inv X pins σ H s→RelV x v→Vals xs us→r x xs H Q →
  wpAny (model X.prog X.w) X.A (call (.builtin id) (v::us)) (EP X pins σ Q) X.xe s
section
variable {X:Cx} {a b:Expr} {ta tb:TE} {pos:Pos}
theorem Wn {r:R2} (hr:S4 X r) (ha:PE X a ta) (hb:PE X b tb) (hs:Bb b):PE X (.Subscript a b pos) (Kq r ta tb):=by
 intro pins s σ H Q I h;exact Subscript_ (Px ha hb I h fun v u s2 x y H2 I2 rx ry q=>hr a b pins s2 σ H2 x y v u Q I2 rx ry q (hs _ _))
def YY (K:aP):R2:=fun x y H Q=>∃p xs i v,x=.ref p∧y=.int i∧bU K H p xs∧lD xs i=some v∧Q v H
def YZ (K:aP):R2:=fun x y H Q=>∃p xs i v,x=.ref p∧y=.int i∧j5 K H p xs∧lD xs i=some v∧Q v H
theorem aZ:S4 X (YY X.K):=by
 intro value slice pins s σ H x y v u Q I rx ry h hs;obtain⟨p,xs,i,z,rfl,rfl,hq,he,q⟩:=h;cases rx;obtain⟨t,rfl⟩:=ry;obtain⟨bq,r,pl,hz⟩:=I.list hq;obtain⟨j,h1,h2,h3,h4,h5⟩:=HV he;obtain⟨w,ew,Wo⟩:=r.get h2;have hl:=r.length;have hn:=sP;have fin:EP X pins σ Q w s:=⟨z,H,I,Wo,q⟩;by_cases h0:0≤i
 ·have hj:i.toNat=j:=by
   rw[seqIndex_of h0 h5] at h1;exact bM h1
  exact item_listR pl.isList h0 Kk (by rw[hj];simpa using ew) fin hs
 ·have hj:(i+(bq.toArray.size:Int)).toNat=j:=by
   rw[seqIndex_neg Kk h4] at h1;rw[cz,←hl];exact bM h1
  exact subscriptTail_builtinR (x:=w) pl.isList.typeIs slot_list_getitem.lookup
   (wpAny_getItem_list_neg (Q:=fun r s'=>r=w∧EP X pins σ Q r s') pl.isList Kk (by rw[cz]<;>omega) Kk (by rw[hj];simpa using ew) ⟨rfl,fin⟩) hs
theorem vT:S4 X (YZ X.K):=by
 intro value slice pins s σ H x y v u Q I rx ry h hs;obtain⟨p,xs,i,z,rfl,rfl,hq,he,q⟩:=h;cases rx;obtain⟨t,rfl⟩:=ry;obtain⟨bq,r,pl,hz⟩:=I.tuple hq;obtain⟨j,h1,h2,h3,h4,h5⟩:=HV he;obtain⟨w,ew,Wo⟩:=r.get h2;have hl:=r.length;have hn:=sP;have fin:EP X pins σ Q w s:=⟨z,H,I,Wo,q⟩;exact subscriptTail_builtinR (x:=w) pl.typeIs slot_tuple_getitem.lookup
  (getItem_tuple (j:=j) (Q:=fun r s'=>r=w∧EP X pins σ Q r s') pl Kk Kk (by rw[cz,←hl];exact h1) (by simpa using ew) ⟨rfl,fin⟩) hs
theorem HW (bq:List Value) (n j:Nat) (u:Value):Obj.mapSeq (·.setIfInBounds j u) { cls:=.type "list",data:=.seq bq.toArray n }={ cls:=.type "list",data:=.seq (bq.set j u).toArray n }:=by
 simp[Obj.mapSeq]
theorem Inv.lst {pins:List (Addr×Obj)} {σ:St} {H:Hp} {s:Shared} {p:Addr} {xs:List V} (I:Inv X pins σ H s) (h:H p=some (.lst xs)) :
  ∃(bq:List Value) (n:Nat),Vals xs bq∧s.heap.get? p=some { cls:=.type "list",data:=.seq bq.toArray n }∧xs.length≤sizeLine:=by
 obtain⟨z,bq,n,r,e⟩:=I.du p _ h;exact⟨bq,n,r,e,z⟩
theorem Inv.S5 {pins:List (Addr×Obj)} {σ:St} {H:Hp} {s:Shared} {p:Addr} {xs ys:List V} {bq nH:List Value} {n n':Nat} {f:Obj→Obj} (I:Inv X pins σ H s) (h:H p=some (.lst xs))
  (ho:s.heap.get? p=some { cls:=.type "list",data:=.seq bq.toArray n }) (hf:f { cls:=.type "list",data:=.seq bq.toArray n }={ cls:=.type "list",data:=.seq nH.toArray n' }) (r:Vals ys nH) (hz:ys.length≤sizeLine) (t:Nat) :
  Inv X pins σ (upd H p (.lst ys)) { s with heap:=s.heap.update p f,toks:=t }:=by
 have e:(s.heap.update p f).get? p=some { cls:=.type "list",data:=.seq nH.toArray n' }:=by
  rw[Heap.get?_update_self f ho (by rw[hf]<;>rfl),hf]
 refine I.write (x:=p) (e:=p) (by rw[h];trivial) (.inl rfl) (fun b u hb q=>(Heap.get?_update_other _ _ (j9 hb)).trans q) ⟨_,e⟩ ?_;exact⟨hz,nH,n',r,e⟩
def Wq:V→V→V→Hp→(Hp→Prop)→Prop:=fun o i v H Q=>∃p xs k j,o=.ref p∧i=.int k∧H p=some (.lst xs)∧xO xs.length k=some j∧Q (upd H p (.lst (xs.set j v)))
theorem set_list:Vj X Wq:=by
 intro pins s σ H o i v ov iv u Q I ro ri rv h;obtain⟨p,xs,k,j,rfl,rfl,hp,hj,q⟩:=h;cases ro;obtain⟨t,rfl⟩:=ri;obtain⟨bq,n,r,ho,hz⟩:=I.lst hp;obtain⟨h1,h2,h3,h4⟩:=HU hj;have hl:=r.length;have hn:=sP;have I':Inv X pins σ (upd H p (.lst (xs.set j v))) { s with heap:=s.heap.update p (Obj.mapSeq (·.setIfInBounds j u)) } :=
  I.S5 hp ho (HW bq n j u) (r.set rv j) (by rw[Fe];exact hz) s.toks
 by_cases h0:0≤k
 ·have hk:k.toNat=j:=by
   rw[seqIndex_of h0 h4] at h1;exact bM h1
  exact PySem.W.ki_setAt ho h0 Kk (by rw[cz,←hl];exact h4) (by rw[hk];exact⟨_,I',q⟩)
 ·have hk:(k+(bq.toArray.size:Int)).toNat=j:=by
   rw[seqIndex_neg Kk h3] at h1;rw[cz,←hl];exact bM h1
  exact PySem.W.ki_setBack ho Kk (by rw[cz,←hl];exact h3) Kk (by rw[hk];exact⟨_,I',q⟩)
theorem DR (lo hi:Option Int) (n:Nat):(sliceBounds lo hi none n).1=((HT.fI n 0 lo:Nat):Int)∧(sliceBounds lo hi none n).2.1=((HT.fI n n hi:Nat):Int)∧(sliceBounds lo hi none n).2.2=1:=by
 refine⟨?_,?_,rfl⟩
 ·cases lo with
  | none=>simp[sliceBounds,HT.fI]
  | some i =>
   simp only[sliceBounds,HT.fI,Option.getD_none,show (1:Int)>0 by decide,aJ];by_cases h:i<0
   ·simp only[h,aJ]<;>omega
   ·simp only[h,aM]<;>omega
 ·cases hi with
  | none=>simp[sliceBounds,HT.fI]
  | some i =>
   simp only[sliceBounds,HT.fI,Option.getD_none,show (1:Int)>0 by decide,aJ];by_cases h:i<0
   ·simp only[h,aJ]<;>omega
   ·simp only[h,aM]<;>omega
theorem Bc (bq:List Value) (lo hi:Option Int):slicePick bq.toArray lo hi none=((bq.drop (HT.fI bq.length 0 lo)).take (HT.fI bq.length bq.length hi-HT.fI bq.length 0 lo)).toArray:=by
 obtain⟨h1,h2,h3⟩:=DR lo hi bq.toArray.size;unfold slicePick;rw[h1,h2,h3];simp only[sliceRange_one,pick_run,cz]<;>rfl
def Vq (K:aP):V→Option Int→Option Int→Hp→VK→Prop:=fun x lo hi H Q=>∃a xs,x=.ref a∧bU K H a xs∧∀p,H p=none→Q (.ref p) (upd H p (.lst (gc xs lo hi)))
theorem fX:SZ X (Vq X.K):=by
 intro pins s σ H x v vl vu lo hi sl Q I rx hs pl pu h;obtain⟨a,xs,rfl,hx,q⟩:=h;cases rx;obtain⟨bq,r,ht,hz⟩:=I.list hx;have hlen:=r.length;refine⟨"list",_,slot_list_getitem.lookup,ht.isList.typeIs,?_⟩;refine wpAny_getItem_list_slice ht.isList hs pl pu .none (by simp) ?_ (by rw[cz]<;>omega);rw[Bc,←hlen];refine⟨.ref s.heap.objs.size,_,I.laid (t':=s.toks) (o:=.lst (gc xs lo hi)) (fun b ob q=>Heap.get?_push_of_some _ q) (bB _) ?_,rfl,q _ (I.du.fresh (bB _))⟩;exact⟨bZ (vS xs lo hi) hz,_,0,(r.drop (HT.fI xs.length 0 lo)).take (HT.fI xs.length xs.length hi-HT.fI xs.length 0 lo),Heap.get?_push_size _ rfl⟩
theorem cx:pS X (.builtin "len") (fun xs H Q=>∃p ys,xs=[.ref p]∧(bU X.K H p ys∨j5 X.K H p ys)∧Q (.int ys.length) H):=by
 intro pins s σ H xs us Q I r h;obtain⟨p,ys,rfl,hq,q⟩:=h;obtain⟨u,rfl,rx⟩:=vals1 r;cases rx;have hn:=sP;rcases hq with hq | hq
 ·obtain⟨bq,r',pl,hz⟩:=I.list hq;have hlen:=r'.length;exact Calls.call_len_list pl.isList (by simp only[cz]<;>omega) ⟨.int ys.length,H,I.tok _,⟨s.toks+1,by rw[cz,hlen]⟩,q⟩
 ·obtain⟨bq,r',pl,hz⟩:=I.tuple hq;have hlen:=r'.length;exact len_tuple pl (by simp only[cz]<;>omega) ⟨.int ys.length,H,I.tok _,⟨s.toks+1,by rw[cz,hlen]⟩,q⟩
def Y0 (K:aP) (T:String) (x:V) (H:Hp):Prop:=match x with
 | .str _=>T="str"
 | .int _=>T="int"
 | .ref p=>(T="list"∧∃xs,bU K H p xs)∨(T="tuple"∧∃o,K.lookup p=some o∧o.cls=.type "tuple"∧o.dict=none) ∨
  (T="dict"∧∃Hr,H p=some (.dK Hr))∨(T="set"∧∃S n,H p=some (.set S n))
 | _=>False
theorem Ms {pins:List (Addr×Obj)} {σ:St} {H:Hp} {s:Shared} {T:String} {x:V} {v:Value} (I:Inv X pins σ H s) (r:RelV x v) (ty:Y0 X.K T x H) :
  s.TypeIs v T∧∀a,v=.ref a→∃ob,s.heap.get? a=some ob∧ob.dict=none:=by
 cases x with
 | str z =>
  obtain⟨t,rfl⟩:=r;cases (show T="str" from ty);exact⟨typeIs_str s z t,fun _ e=>nomatch e⟩
 | int i =>
  obtain⟨t,rfl⟩:=r;cases (show T="int" from ty);exact⟨typeIs_int s i t,fun _ e=>nomatch e⟩
 | ref p =>
  cases r;rcases ty with ⟨rfl,xs,hq⟩ | ⟨rfl,o,hk,hc,hd⟩ | ⟨rfl,hk⟩ | ⟨rfl,S,n,hk⟩
  ·obtain⟨bq,_,pl,_⟩:=I.list hq;refine⟨pl.isList.typeIs,fun a e=>?_⟩;cases e;obtain⟨o,n,e,c,hd,_⟩:=pl;exact⟨o,e,hd⟩
  ·refine⟨⟨o,I.qO p o hk,hc⟩,fun a e=>?_⟩;cases e;exact⟨o,I.qO _ o hk,hd⟩
  ·have z:∃o,s.heap.get? p=some o∧o.ExactDict:=by
    obtain⟨Hr,hk⟩:=hk;obtain⟨_,_,_,_,o,_,_,e,ex,_⟩:=I.du p _ hk;exact⟨o,e,ex⟩
   obtain⟨o,e,ex⟩:=z;refine⟨⟨o,e,ex.1⟩,fun a e2=>?_⟩;cases e2;exact⟨o,e,ex.2.1⟩
  ·obtain⟨o,_,_,_,e,ex,_⟩:=I.du p _ hk;refine⟨⟨o,e,ex.1⟩,fun a e2=>?_⟩;cases e2;exact⟨o,e,ex.2.1⟩
 | _=>exact False.elim ty
def tBM (K:aP) (T:String) (r:V→List V→Hp→VK→Prop) (to:TE) (t:TA):TE:=fun σ H Q=>to σ H fun x H1=>Y0 K T x H1∧t σ H1 fun xs H2=>r x xs H2 Q
variable {o e:Expr} {es:List Expr} {to:TE} {t:TA} {name:Str} {apos qF:Pos} {T id:String} {r:V→List V→Hp→VK→Prop}
theorem Ky (pa:PlainAttrs T) (slot:Slot T name id) (Nz:typeOf (.builtin id)=pure (.type "method_descriptor")) (hm:YX X id r) (ho:PE X o to) (ha:PA X (e::es) t)
  (uK:autoParam (attributeBase o name X.env (eval o X.env)=eval o X.env) cW)
  (Y1:autoParam (((backTo qF (starEach (e::es) X.env)).all (fun x=>!x.1)&&(backToKw qF (keywordEach [] X.env)).all (fun x=>x.1.isSome)
  &&decide ((e::es).length+([]:List Keyword).length+(if ([]:List Keyword).isEmpty then 0 else 1)<30))=true) cW)
  (Kz:autoParam ((apos.endLine==qF.line)=true) cW) (hs:autoParam (starEach (e::es) X.env=(false,eval e X.env)::starEach es X.env) cW) (S6:autoParam ((backTo qF (starEach es X.env)).any (·.1)=false) cW) :
  PE X (.Call (.Attribute o name apos) (e::es) [] qF) (tBM X.K T r to t):=by
 intro pins s σ H Q I h;refine wpAny_Call_method_late uK Y1 Kz rfl (dA (ho pins s σ H _ I h) fun v s1 ⟨x,H1,I1,r1,ty,q1⟩=>?_);obtain⟨h1,h2⟩:=Ms I1 r1 ty;refine⟨T,id,pa,slot,Nz,h1,h2,?_⟩;have hA:=ha qF pins s1 σ H1 _ I1 q1;rw[hs] at hA ⊢;refine Calls.callWith_builtin (by show (false||(backTo qF (starEach es X.env)).any (·.1))=false;rw[S6]<;>rfl) (Calls.evalArgs_plain ?_);exact dA hA fun us s2 ⟨vs,H2,I2,r2,q2⟩=>hm pins s2 σ H2 x vs v us Q I2 r1 r2 q2
end
end L2
namespace L2
open PySem PySem.Spec PyProof.Rows
def Y2 (X:Cx) (id:String) (r:V→List V→Hp→VK→Prop):Prop :=
 ∀(pins:List (Addr×Obj)) (s:Shared) (σ:St) (H:Hp) (x:V) (xs:List V) (v:Value) (us:List Value) (Q:VK),Inv X pins σ H s→RelV x v→Vals xs us→r x xs H Q →
  wpAny (model X.prog X.w) X.A (call (.builtin id) (v::us)) (EP X pins σ Q) X.xe s
theorem Vals.one:∀{x:V} {us:List Value},Vals [x] us→∃u,us=[u]∧RelV x u
 | _,_,.cons r .nil=>⟨_,rfl,r⟩
theorem Vals.rep {xs:List V} {us:List Value} (h:Vals xs us):∀k:Nat,Vals (List.replicate k xs).flatten (List.replicate k us).flatten
 | 0=>.nil
 | k+1=>by
  rw[mB,mB,uu,uu];exact Vals.append h (Vals.rep h k)
theorem foldl_rep (bq:List Value):∀(k:Nat) (acc:List Value),
  List.foldl (fun x1 x2=>x1++x2) acc.toArray (List.replicate k bq.toArray)=(acc++(List.replicate k bq).flatten).toArray
 | 0,acc=>by simp
 | k+1,acc=>by
  have e:acc.toArray++bq.toArray=(acc++bq).toArray:=by simp
  have e2:(acc++bq)++(List.replicate k bq).flatten=acc++(List.replicate (k+1) bq).flatten:=by
   rw[mB,uu,kI]
  rw[←e2,←foldl_rep bq k (acc++bq),←e,mB,List.foldl_cons]
section
variable {X:Cx} {pins:List (Addr×Obj)} {σ:St} {H:Hp} {s:Shared} {l b:Addr} {xs ys zs:List V}
theorem Inv.Vr {bq nH:List Value} {n:Nat} {f:Array Value→Array Value} {t':Nat} (I:Inv X pins σ H s) (hH:H l=some (.lst xs))
  (e:s.heap.get? l=some { cls:=.type "list",data:=.seq bq.toArray n }) (hf:f bq.toArray=nH.toArray) (hv:Vals ys nH) (hz:ys.length≤sizeLine) :
  Inv X pins σ (upd H l (.lst ys)) { s with heap:=s.heap.update l (Obj.mapSeq f),toks:=t' }:=by
 have q:=PySem.IsL.update e f;rw[hf] at q;refine I.write (x:=l) (e:=l) (by rw[hH];exact trivial) (.inl rfl) (fun b' u hb hu=>(Heap.get?_update_other s.heap (Obj.mapSeq f) (j9 hb)).trans hu) ⟨_,q⟩ ?_;exact⟨hz,nH,_,hv,q⟩
theorem Inv.Vs {bq:List Value} {t':Nat} (I:Inv X pins σ H s) (hv:Vals ys bq) (hz:ys.length≤sizeLine) :
  Inv X pins σ (upd H s.heap.objs.size (.lst ys)) { s with heap:=s.heap.push { cls:=.type "list",data:=.seq bq.toArray },toks:=t' } :=
 I.laid (fun _ _ q=>Heap.get?_push_of_some _ q) (bB _) ⟨hz,bq,0,hv,Heap.get?_push_size _ rfl⟩
theorem Inv.fresh (I:Inv X pins σ H s):H s.heap.objs.size=none:=I.du.fresh (bB _)
theorem Inv.EV (I:Inv X pins σ H s) (hH:H l=some (.lst xs)):xs.length≤sizeLine∧∃(bq:List Value) (n:Nat),Vals xs bq∧xs.length=bq.length∧s.heap.get? l=some { cls:=.type "list",data:=.seq bq.toArray n }:=by
 obtain⟨z,bq,n,r,e⟩:=I.du l _ hH;exact⟨z,bq,n,r,r.length,e⟩
theorem EW {n:Nat} (h:n≤sizeLine):Builtin.List.listTooLong n=false:=by
 unfold Builtin.List.listTooLong;exact bS Kk
end
section
variable {X:Cx}
def PZ:V→List V→Hp→VK→Prop:=fun x vs H Q=>∃l xs y,x=.ref l∧vs=[y]∧H l=some (.lst xs)∧xs.length<sizeLine∧Q .fV (upd H l (.lst (xs++[y])))
theorem Bd:Y2 X "list.append" PZ:=by
 intro pins s σ H x vs v us Q I rx rv h;obtain⟨l,xs,y,rfl,rfl,hH,hz,q⟩:=h;cases rx;obtain⟨u,rfl,ru⟩:=rv.one;obtain⟨z,bq,n,r,hl,e⟩:=I.EV hH;refine call_meets F.slot_list_append ⟨_,e,rfl⟩ F.entry_list_append (F.args_list_append_2 _ _) (PySem.list_append l bq.toArray n u (by rw[cz];omega)) ⟨e,?_⟩;refine⟨.fV,_,I.Vr (nH:=bq++[u]) hH e (by simp) (r.append (.cons ru .nil)) ?_,rfl,q⟩;rw[cT,List.length_singleton];omega
def P0:V→List V→Hp→VK→Prop:=fun x vs H Q=>∃l b xs zs,x=.ref l∧vs=[.ref b]∧H l=some (.lst xs)∧H b=some (.lst zs)∧xs.length+zs.length≤sizeLine∧Q .fV (upd H l (.lst (xs++zs)))
theorem KA:Y2 X "list.extend" P0:=by
 intro pins s σ H x vs v us Q I rx rv h;obtain⟨l,b,xs,zs,rfl,rfl,hH,hB,hz,q⟩:=h;cases rx;obtain⟨u,rfl,ru⟩:=rv.one;cases ru;obtain⟨z,bq,n,r,hl,e⟩:=I.EV hH;obtain⟨z2,rz,n2,r2,fo,e2⟩:=I.EV hB;have hsz:bq.toArray.size+rz.toArray.size≤sizeLine:=by rw[cz,cz];omega
 have KB:¬(!bq.toArray.isEmpty&&Builtin.List.listTooLong (bq.toArray.size+rz.toArray.size))=true:=by
  rw[EW hsz,uD];exact dB
 refine call_meets F.slot_list_extend ⟨_,e,rfl⟩ F.entry_list_extend (F.args_list_extend_2 _ _)
  (AutoSeq1.list_extend_list_list_0 l bq.toArray n b rz.toArray n2 KB (by rw[cz];omega) Kk) ⟨e,e2,?_⟩
 refine⟨.fV,_,I.Vr (nH:=bq++rz) hH e (by simp) (r.append r2) ?_,rfl,q⟩;rw[cT];omega
def Y4:R2:=fun x y H Q=>∃l b xs zs,x=.ref l∧y=.ref b∧H l=some (.lst xs)∧H b=some (.lst zs)∧xs.length+zs.length≤sizeLine∧∀p,H p=none→Q (.ref p) (upd H p (.lst (xs++zs)))
theorem FX:i9 X (binaryOp .Add) Y4:=by
 intro pins s σ H x y v u Q I rx ry h;obtain⟨l,b,xs,zs,rfl,rfl,hH,hB,hz,q⟩:=h;cases rx;cases ry;obtain⟨z,bq,n,r,hl,e⟩:=I.EV hH;obtain⟨z2,rz,n2,r2,fo,e2⟩:=I.EV hB;refine PySem.P.add_list e e2 ?_ (by rw[cz,cz];omega);have ea:bq.toArray++rz.toArray=(bq++rz).toArray:=by simp
 rw[ea];exact⟨.ref _,_,I.Vs (t':=s.toks) (r.append r2) (by rw[cT];omega),rfl,q _ I.fresh⟩
def Y5:R2:=fun x y H Q=>∃l k xs,x=.ref l∧y=.int k∧H l=some (.lst xs)∧-(2^63)≤k∧k<2^63∧xs.length*k.toNat≤sizeLine ∧
 ∀p,H p=none→Q (.ref p) (upd H p (.lst (List.replicate k.toNat xs).flatten))
theorem len_rep {α:Type} (xs:List α) (k:Nat):(List.replicate k xs).flatten.length=k*xs.length:=by
 induction k with
 | zero=>simp
 | succ k ih=>rw[mB,uu,cT,ih,Nat.succ_mul,k6]
theorem S7:i9 X (binaryOp .Mult) Y5:=by
 intro pins s σ H x y v u Q I rx ry h;obtain⟨l,k,xs,rfl,rfl,hH,h1,h2,hz,q⟩:=h;cases rx;obtain⟨t,rfl⟩:=ry;obtain⟨z,bq,n,r,hl,e⟩:=I.EV hH;have hlen:bq.toArray.size*k.toNat≤sizeLine:=by rw[cz,←hl];exact hz
 have Y6:¬bq.toArray.size*k.toNat>(2^63-1)/8:=by
  have:(sizeLine:Nat)≤(2^63-1)/8:=by decide
  omega
 have Be:¬(!Builtin.List.listFitsIndex k)=true:=by
  rw[fitsIndex_both h1 h2];exact dB
 have KB:¬Builtin.List.listTooLong (bq.toArray.size*k.toNat)=true:=by
  rw[EW hlen];exact dB
 have Y7:List.foldl (fun x1 x2=>x1++x2) #[] (List.replicate (if bq.toArray.isEmpty=true then 0 else k.toNat) bq.toArray)=(List.replicate k.toNat bq).flatten.toArray:=by
  have f0:∀m:Nat,List.foldl (fun x1 x2=>x1++x2) #[] (List.replicate m bq.toArray)=(List.replicate m bq).flatten.toArray:=fun m=>by
   have:=foldl_rep bq m [];rw[List.nil_append] at this;exact this
  rw[f0];cases bq with
  | nil=>simp
  | cons a r'=>rw[ag (by simp)]
 refine wpAny_binaryOp_repeat_ref (T:="list") (U:="int") Ke ⟨_,e,rfl⟩ (fun s'=>typeIs_int s' k t) noFill_list_mul F.fills_int_mul F.slot_int_rmul repeat_list F.slot_int_index.lookup
  (call_meets F.slot_int_rmul (typeIs_int s k t) F.entry_int_rmul (F.args_int_rmul_2 _ _) (int___rmul___int_list k t l bq.toArray n)
   ⟨e,rfl,⟨_,e,rfl⟩,call_meets F.slot_list_mul ⟨_,e,rfl⟩ F.entry_list_mul (F.args_list_mul_2 _ _) (AutoListH.list___mul___list_int_3 l bq.toArray n k t Be Y6 KB) ⟨e,?_⟩⟩)
 rw[Y7];exact⟨.ref _,_,I.Vs (t':=s.toks) (r.rep k.toNat) (by rw[len_rep,eG];exact hz),rfl,q _ I.fresh⟩
end
section
variable {prog:Program} {w:World} {A:Around} {E:Value→Shared→Prop} {s:Shared}
end
section
variable {X:Cx}
end
end L2
namespace L2
open PySem PySem.Spec PyProof.Rows
theorem Vals.ints:∀{ns:List Int} {us:List Value},Vals (ns.map V.int) us→IntsAre us ns
 | [],us,h=>by
  rw[List.map_nil] at h;cases h;exact IntsAre.nil
 | n::ns,us,h=>by
  rw[fU] at h;cases h with
  | cons r t =>
   obtain⟨k,rfl⟩:=r;exact IntsAre.cons n k (Vals.ints t)
theorem Vals.Y8:∀{bs:List Bool} {us:List Value},Vals (bs.map V.bl) us→us=bs.map Value.bool
 | [],us,h=>by
  rw[List.map_nil] at h;cases h;rfl
 | b::bs,us,h=>by
  rw[fU] at h;cases h with
  | cons r t =>
   cases r;rw[Vals.Y8 t,fU]
theorem Vals.Vt {a:Addr} {us:List Value} (r:Vals [V.ref a] us):us=[Value.ref a]:=by
 cases r with
 | cons r t =>
  cases t;cases r;rfl
section
variable {prog:Program} {w:World} {A:Around} {E:Value→Shared→Prop} {s:Shared} {l:Addr} {bq:List Value} {ns:List Int} {Q:Value→Shared→Prop}
theorem P1 (hh:A.handled=none) (hl:s.heap.IsList l bq.toArray) (hi:IntsAre bq ns)
  (h:∀h' tk t',(∀b o,s.heap.get? b=some o→h'.get? b=some o)→Q (.int ns.sum t') { s with heap:=h',toks:=tk }):wpAny (model prog w) A (call (.builtin "sum") [.ref l]) Q E s:=by
 obtain⟨xs,e⟩:=hi.allInts.items;have hn:numsOf (intItems xs).toList=ns:=by rw[←e];exact hi.numsOf
 rw[nums_intItems] at hn;rw[e] at hl;refine PySem.sum_intListG hh hl fun h' tk t' hk=>?_;have:=h h' tk t' hk;rw[preSum_eq,ni (by simp),hn];exact this
end
section
variable {X:Cx}
def Y9 (K:aP):List V→Hp→VK→Prop:=fun vs H Q=>∃(a:Addr) (ns:List Int),vs=[V.ref a]∧bU K H a (ns.map V.int)∧Q (.int ns.sum) H
theorem S8 (hc:X.calm=true):pS X (.builtin "sum") (Y9 X.K):=by
 intro pins s σ H vs us Q I r h;obtain⟨a,ns,rfl,hs,q⟩:=h;obtain⟨bq,rv,hl,_⟩:=I.list hs;rw[Vals.Vt r];exact P1 (I.ok.hd hc) hl.isList rv.ints fun h' tk t' hk=>⟨.int _,H,I.kept hk,⟨_,rfl⟩,q⟩
end
section
variable {X:Cx}
end
section
variable {X:Cx}
end
theorem NA {prog:Program} {w:World} {A:Around} {E:Value→Shared→Prop} {s:Shared} {l:Addr} {items:Array Value} {Q:Value→Shared→Prop} (hl:s.heap.IsList l items)
  (h:∀s₂:Shared,s₂={ s with heap:=s.heap.push { cls:=.type "list_iterator",data:=.fields #[.ref l,.int 0 0] } } →
   (s₂.heap.IsListIter s.heap.objs.size l 0∧s₂.heap.IsList l items)→l≠s.heap.objs.size→Q (.ref s.heap.objs.size) s₂):wpAny (model prog w) A (pyIter (.ref l)) Q E s:=by
 have oU:l<s.heap.objs.size:=by obtain⟨_,e,_⟩:=hl;exact Heap.lt_size e
 exact wpAny_pyIter_list hl (h _ rfl ⟨⟨_,Heap.get?_push_size _ rfl,rfl,rfl⟩,hl.push _⟩ (dJ oU))
theorem FY {prog:Program} {w:World} {A:Around} {bs:List Bool} {bq:List Value} (e:bq=bs.map Value.bool) :
  TruthOf prog w A (fun i v=>bq.toArray[i]?=some v) (fun i=>bs.getD i false):=fun i v s Q E hv hq=>by
 have SU:bq[i]?=some v:=by simpa using hv
 rw[e,aT] at SU;obtain⟨b,hb,rfl⟩:=Option.map_eq_some_iff.mp SU;have hg:bs.getD i false=b:=by rw[List.getD_eq_getElem?_getD,hb]<;>rfl
 have FV:Q (bs.getD i false) s:=hq;rw[hg] at FV;exact wpAny_truthy_bool FV
theorem all_range:∀bs:List Bool,(List.range bs.length).all (fun i=>bs.getD i false)=bs.all id
 | []=>rfl
 | b::bs=>by
  rw[cN,Fp,uF,List.all_map,uF,←all_range bs]
  all_goals rfl
section
variable {X:Cx}
def Za (K:aP):List V→Hp→VK→Prop:=fun vs H Q=>∃(a:Addr) (bs:List Bool),vs=[V.ref a]∧bU K H a (bs.map V.bl)∧Q (.bl (bs.all id)) H
theorem S9 (hc:X.calm=true):pS X (.builtin "all") (Za X.K):=by
 intro pins s σ H vs us Q I r h;obtain⟨a,bs,rfl,hs,q⟩:=h;obtain⟨bq,rv,hl,_⟩:=I.list hs;rw[Vals.Vt r];have hb:=rv.Y8;refine call_all_walk (NA hl.isList fun s₂ e2 st iY=>?_);subst e2;refine⟨_,_,_,_,_,_,_,rfl,Walks.list (A:=X.A.in1) (I.ok.hd hc) _ a iY bq.toArray,st,FY hb,fun h' tk hk=>?_⟩;refine⟨.bl _,H,I.kept fun b o eo=>hk b o (fun P2=>?_) (Heap.get?_push_of_some _ eo),?_,q⟩
 ·rcases cO.mp P2 with e1 | P2
  ·exact absurd (e1 ▸ Heap.lt_size eo) (i8 _)
  ·cases P2
 ·show Value.bool _=Value.bool _;rw[←all_range,hb,cz,aF]
end
mutual
inductive Dp (K:aP) (H:Hp):V→PyData→Prop
 | fV:Dp K H .fV .none
 | bl (b:Bool):Dp K H (.bl b) (.bool b)
 | int (i:Int):Dp K H (.int i) (.int i)
 | str (x:Str):Dp K H (.str x) (.str x)
 | lst {a:Addr} {xs:List V} {ds:List PyData}:bU K H a xs→uL K H xs ds→Dp K H (.ref a) (.list ds)
 | tup {a:Addr} {xs:List V} {ds:List PyData}:j5 K H a xs→uL K H xs ds→Dp K H (.ref a) (.tuple ds)
inductive uL (K:aP) (H:Hp):List V→List PyData→Prop
 | nil:uL K H [] []
 | cons {v:V} {vs:List V} {d:PyData} {ds:List PyData}:Dp K H v d→uL K H vs ds→uL K H (v::vs) (d::ds)
end
section
variable {X:Cx} {pins:List (Addr×Obj)} {σ:St} {H:Hp} {s:Shared}
mutual
theorem Dp.reads (I:Inv X pins σ H s):∀(d:PyData) (v:V) (u:Value),Dp X.K H v d→RelV v u→∃as,Reads s.heap u d as
 | .none,_,_,h,r=>by
  cases h;cases r;exact⟨_,Reads.none⟩
 | .bool b,_,_,h,r=>by
  cases h;cases r;exact⟨_,Reads.bool b⟩
 | .int i,_,_,h,r=>by
  cases h;obtain⟨t,rfl⟩:=r;exact⟨_,Reads.int i t⟩
 | .str x,_,_,h,r=>by
  cases h;obtain⟨t,rfl⟩:=r;exact⟨_,Reads.str x t⟩
 | .list ds,_,_,h,r=>by
  cases h with
  | lst hs ha =>
   cases r;obtain⟨bq,rv,⟨o,n,ho,hc,_,hd⟩,_⟩:=I.list hs;obtain⟨as,hr⟩:=Dp.readsAll I ds _ bq ha rv;exact⟨_,Reads.list ho hc hd hr⟩
 | .tuple ds,_,_,h,r=>by
  cases h with
  | tup hs ha =>
   cases r;obtain⟨bq,rv,⟨o,ho,hc,n,hd⟩,_⟩:=I.tuple hs;obtain⟨as,hr⟩:=Dp.readsAll I ds _ bq ha rv;exact⟨_,Reads.tuple ho hc hd hr⟩
 | .dict _,_,_,h,_=>by cases h
theorem Dp.readsAll (I:Inv X pins σ H s):∀(ds:List PyData) (vs:List V) (us:List Value),uL X.K H vs ds→Vals vs us→∃as,ReadsAll s.heap us ds as
 | [],_,_,h,r=>by
  cases h;cases r;exact⟨_,ReadsAll.nil⟩
 | d::ds,_,_,h,r=>by
  cases h with
  | cons h1 h2 =>
   cases r with
   | cons r1 r2 =>
    obtain⟨as,q1⟩:=Dp.reads I d _ _ h1 r1;obtain⟨bs,q2⟩:=Dp.readsAll I ds _ _ h2 r2;exact⟨_,ReadsAll.cons q1 q2⟩
end
end
section
variable {X:Cx}
def Zb (K:aP):R2:=fun x y H Q=>∃d e,Dp K H x d∧Dp K H y e∧SeqAt.shaped d=true∧SeqAt.shaped e=true∧Q (.bl (PyData.eqv d e)) H
theorem Ta (hu:X.A.units+64<cLine):i9 X (compareOp .Eq) (Zb X.K):=by
 intro pins s σ H x y v u Q I rx ry h;obtain⟨d,e,hd,he,sd,se,q⟩:=h;obtain⟨as,r1⟩:=Dp.reads I d x v hd rx;obtain⟨bs,r2⟩:=Dp.reads I e y u he ry;exact SeqAt.compareEq_shaped r1 r2 sd se hu ⟨.bl _,H,I,rfl,q⟩
end
end L2
namespace L2
open PySem PySem.Spec PyProof.Rows
abbrev Mt (h:Heap) (c:Addr) (v:Option Value):Prop:=h.IsCell c v
def Zc (scope sc:Scope):Scope :=
 { scope with names:=scope.names.map fun (n,k)=>if (k==.free&&sc.kind==.function&&sc.names.lookup n==some .cell) then (n,.cell) else (n,k) }
def eZ (cells:List (Str×Addr)):List (Str×NameKind)→List (Str×Addr)→List (Str×Addr)
 | [],acc=>acc
 | (n,k)::r,acc=>if k==.free then eZ cells r ((n,(cells.lookup n).getD 0)::acc) else eZ cells r acc
theorem uo (env:Env) (f:Str×NameKind→List (Str×Addr)→Sem (ForInStep (List (Str×Addr))))
  (hf:∀n k c,f (n,k) c=if k==.free then (do let a ←cellOf env n;pure (.yield ((n,a)::c))) else pure (.yield c)) :
  ∀(names:List (Str×NameKind)) (acc:List (Str×Addr)),(∀y∈names,y.2=.free→∃c,env.cells.lookup y.1=some c)→forIn names acc f=pure (eZ env.cells names acc)
 | [],acc,_=>by rw[List.forIn_nil];rfl
 | (n,k)::r,acc,h=>by
  rw[List.forIn_cons,hf];have ih:=fun acc=>uo env f hf r acc fun y hy=>h y (dw _ hy);unfold eZ;by_cases hk:(k==NameKind.free)=true
  ·rw[ao hk,ao hk];obtain⟨c,hc⟩:=h (n,k) fD (by simpa using hk);have e:cellOf env n=pure c:=by unfold cellOf;rw[hc]
   rw[e];have e2:(env.cells.lookup n).getD 0=c:=by rw[hc];rfl
   rw[e2];exact ih _
  ·rw[ag hk,ag hk];exact ih _
theorem HY {scope:Scope} {env:Env} (h:∀y∈scope.names,y.2=.free→∃c,env.cells.lookup y.1=some c):closureFor scope env=pure (eZ env.cells scope.names []):=by
 simp only[closureFor];rw[uo env _ (fun n k c=>rfl) scope.names [] h];rfl
theorem mem_lookup {α:Type}:∀{l:List (Str×α)} {n:Str} {c:α},(n,c)∈l→∃c',l.lookup n=some c'
 | (k,v)::r,n,c,h=>by
  rw[nr];cases hb:n==k with
  | true=>exact⟨_,rfl⟩
  | false =>
   rcases cO.mp h with e | h
   ·cases e;simp at hb
   ·exact mem_lookup h
theorem lQ {cells:List (Str×Addr)}:∀{names:List (Str×NameKind)} {acc:List (Str×Addr)} {n:Str} {c:Addr},(n,c)∈eZ cells names acc→(n,c)∈acc∨((n,.free)∈names∧c=(cells.lookup n).getD 0)
 | [],_,_,_,h=>.inl h
 | (m,k)::r,acc,n,c,h=>by
  unfold eZ at h;split at h
  ·rename_i hk;have hk:k=.free:=by simpa using hk
   rcases lQ h with h | ⟨h1,h2⟩
   ·rcases cO.mp h with e | h
    ·cases e;exact .inr ⟨hk ▸ fD,rfl⟩
    ·exact .inl h
   ·exact .inr ⟨dw _ h1,h2⟩
  ·rcases lQ h with h | ⟨h1,h2⟩
   ·exact .inl h
   ·exact .inr ⟨dw _ h1,h2⟩
theorem pX {cells:List (Str×Addr)}:∀{names:List (Str×NameKind)} {acc:List (Str×Addr)} {p:Str×Addr},p∈acc→p∈eZ cells names acc
 | [],_,_,h=>h
 | (m,k)::r,acc,p,h=>by
  unfold eZ;split
  ·exact pX (dw _ h)
  ·exact pX h
theorem pY {cells:List (Str×Addr)}:∀{names:List (Str×NameKind)} {acc:List (Str×Addr)} {n:Str},(n,.free)∈names→(n,(cells.lookup n).getD 0)∈eZ cells names acc
 | (m,k)::r,acc,n,h=>by
  unfold eZ;rcases cO.mp h with e | h
  ·cases e;exact pX fD
  ·split
   ·exact pY h
   ·exact pY h
theorem mz:∀{names:List (Str×NameKind)} {h:Heap} {acc:List (Str×Addr)} {x:Str} {c:Addr},(x,c)∈cellsFrom h.objs.size names acc →
  (x,c)∈acc∨((x,.cell)∈names∧h.objs.size≤c∧Mt (pushCells h names) c none)
 | [],_,_,_,_,h=>.inl h
 | (n,k)::r,h,acc,x,c,hm=>by
  unfold cellsFrom at hm;unfold pushCells;split at hm
  ·rename_i hk;rw[ao hk];have hk:k=.cell:=by simpa using hk
   rw[←Heap.size_push h { cls:=.type "cell",data:=.cell none }] at hm;rcases mz hm with hm | ⟨h1,h2,h3⟩
   ·rcases cO.mp hm with e | hm
    ·cases e;exact .inr ⟨hk ▸ fD,bB _,_,pushCells_keeps r _ _ _ (Heap.get?_push_size _ rfl),rfl⟩
    ·exact .inl hm
   ·rw[Heap.size_push] at h2;exact .inr ⟨dw _ h1,zu h2,h3⟩
  ·rename_i hk;rw[ag hk];rcases mz hm with hm | ⟨h1,h2,h3⟩
   ·exact .inl hm
   ·exact .inr ⟨dw _ h1,h2,h3⟩
theorem pZ:∀{names:List (Str×NameKind)} {n:Nat} {acc:List (Str×Addr)} {p:Str×Addr},p∈acc→p∈cellsFrom n names acc
 | [],_,_,_,h=>h
 | (m,k)::r,n,acc,p,h=>by
  unfold cellsFrom;split
  ·exact pZ (dw _ h)
  ·exact pZ h
theorem uM:∀{names:List (Str×NameKind)} {n:Nat} {acc:List (Str×Addr)} {x:Str},(x,.cell)∈names→∃c,(x,c)∈cellsFrom n names acc
 | (m,k)::r,n,acc,x,h=>by
  unfold cellsFrom;rcases cO.mp h with e | h
  ·cases e;exact⟨n,pZ fD⟩
  ·split
   ·exact uM h
   ·exact uM h
theorem uN:∀{names:List (Str×NameKind)} {h:Heap} {acc:List (Str×Addr)} {x y:Str} {c:Addr},(∀p∈acc,p.2<h.objs.size)→(∀x y c,(x,c)∈acc→(y,c)∈acc→x=y) →
  (x,c)∈cellsFrom h.objs.size names acc→(y,c)∈cellsFrom h.objs.size names acc→x=y
 | [],_,_,_,_,_,_,hi,h1,h2=>hi _ _ _ h1 h2
 | (n,k)::r,h,acc,x,y,c,hl,hi,h1,h2=>by
  unfold cellsFrom at h1 h2;split at h1
  ·rename_i hk;rw[ao hk] at h2;rw[←Heap.size_push h { cls:=.type "cell",data:=.cell none }] at h1 h2;refine uN (h:=h.push _) (fun p hp=>?_) (fun x y c a b=>?_) h1 h2
   ·rw[Heap.size_push];rcases cO.mp hp with rfl | hp
    ·exact EN _
    ·exact Fy (hl p hp)
   ·rcases cO.mp a with e | a<;>rcases cO.mp b with e' | b
    ·cases e;cases e';rfl
    ·cases e;exact absurd (hl _ b) (i8 _)
    ·cases e';exact absurd (hl _ a) (i8 _)
    ·exact hi _ _ _ a b
  ·rename_i hk;rw[ag hk] at h2;exact uN hl hi h1 h2
theorem FZ {M:Model} {A:Around} {E:Value→Shared→Prop} {s:Shared} {scope:Scope} {globals:Addr} {closure:List (Str×Addr)} {qual:Str} {func:Option Addr} {code:Value} {around:Env} {builtins:Addr} {Q:Env→Shared→Prop}
  (h:Q (newEnv scope s.heap.objs.size globals (cellsFrom (s.heap.objs.size+1) scope.names closure) qual func code (some around) builtins)
   { s with heap:=pushCells (s.heap.push { cls:=.type "dict",data:=.dict #[] }) scope.names }) :
  wpAny M A (newFunctionEnv scope globals closure [] qual func code (some around) builtins) Q E s:=by
 simp only[newFunctionEnv,Option.isSome_some,aJ];refine wpAny_bind (wpAny_alloc ?_);refine wpAny_bind (wpAny_layCells _ (fun n k c=>rfl) scope.names closure _ _ ?_);rw[show ({ s with heap:=s.heap.push { cls:=.type "dict",data:=.dict #[] } }:Shared).heap.objs.size=s.heap.objs.size+1 from Heap.size_push ..];rw[List.forIn_nil];exact wpAny_bind (wpAny_pure (wpAny_pure h))
theorem qa {sc:Scope}:∀{names:List (Str×NameKind)} {x:Str} {k:NameKind},
  (names.map fun (n,k)=>if (k==NameKind.free&&sc.kind==.function&&sc.names.lookup n==some .cell) then (n,NameKind.cell) else (n,k)).lookup x=some k →
  ∃k',names.lookup x=some k'∧(k=k'∨(k'=.free∧k=.cell))
 | [],_,_,h=>by simp at h
 | (n,k₀)::r,x,k,h=>by
  have ih:=@qa sc r x k;have h':List.lookup x ((if (k₀==NameKind.free&&sc.kind==.function&&sc.names.lookup n==some .cell)=true then (n,NameKind.cell) else (n,k₀))::(r.map _))=some k:=h;cases hx:x==n with
  | true =>
   simp only[nr,hx];by_cases hc:(k₀==NameKind.free&&sc.kind==.function&&sc.names.lookup n==some .cell)=true
   ·rw[ao hc] at h';simp only[nr,hx] at h';cases h';simp only[b5,dF] at hc;exact⟨k₀,rfl,.inr ⟨hc.1.1,rfl⟩⟩
   ·rw[ag hc] at h';simp only[nr,hx] at h';cases h';exact⟨_,rfl,.inl rfl⟩
  | false =>
   simp only[nr,hx];by_cases hc:(k₀==NameKind.free&&sc.kind==.function&&sc.names.lookup n==some .cell)=true
   ·rw[ao hc] at h';simp only[nr,hx] at h';exact ih h'
   ·rw[ag hc] at h';simp only[nr,hx] at h';exact ih h'
structure Bg (N:List Str) (sc scope:Scope) (own:List (Str×Nat)):Prop where
 kind:scope.kind=.function
 uniq:∀y∈scope.names,scope.names.lookup y.1=some y.2
 ix:∀p∈own,N[p.2]?=some p.1
 free:∀y∈scope.names,y.2=.free→sc.names.lookup y.1=some .cell∨sc.names.lookup y.1=some .free
 own:∀y∈scope.names,y.2=.local∨y.2=.cell→y.1∈own.map (·.1)∨y.1∉N
def wipe (σ:St):List Nat→St
 | []=>σ
 | v::vs=>(wipe σ vs).set v none
theorem qb (σ:St):∀vs:List Nat,(wipe σ vs).length=σ.length
 | []=>rfl
 | v::vs=>by unfold wipe;rw[Fe,qb σ vs]
theorem uO {σ:St} {i:Nat} {x:V}:∀{vs:List Nat},(wipe σ vs)[i]?=some (some x)→σ[i]?=some (some x)∧i∉vs
 | [],h=>⟨h,by simp⟩
 | v::vs,h=>by
  unfold wipe at h;by_cases hi:v=i
  ·subst hi;by_cases hv:v<(wipe σ vs).length
   ·rw[Eo hv] at h;cases h
   ·rw[eP (by simpa using hv)] at h;cases h
  ·rw[Er hi] at h;obtain⟨h1,h2⟩:=uO h;exact⟨h1,by simp only[cO,not_or];exact⟨fun e=>hi e.symm,h2⟩⟩
abbrev Cx.qc (X:Cx) (s:Shared) (H:Hp) (scope:Scope) (gI:Env) (fp:List Addr):Cx:={ X with oM:=s,Pk:=H,env:=gI,outer:=X.stack,ex:=fp,fn:=fun x=>scope.names.lookup x==some .cell,pn:=[],xe:=fun _ _=>False }
section
variable {X:Cx} {pins:List (Addr×Obj)} {σ:St} {H:Hp} {s:Shared}
theorem F4 {scope:Scope} {own:List (Str×Nat)} {fp:List Addr} (I:Inv X pins σ H s) (ok:Bg X.N X.env.scope scope own) (hN:X.N.Nodup) (NB:∀b∈fp,qE X pins H b∧b<s.heap.objs.size) :
  Inv (X.qc s H scope (compEnvC scope (cellsFrom (s.heap.objs.size+1) scope.names (eZ X.env.cells scope.names [])) s.heap.objs.size X.env) fp) [] (wipe σ (own.map (·.2))) H { s with heap:=pushCells (s.heap.push { cls:=.type "dict",data:=.dict #[] }) scope.names }:=by
 have xN:∀y∈scope.names,y.2=.free→∃c,X.env.cells.lookup y.1=some c:=fun y hy e=>by
  rcases ok.free y hy e with k | k
  ·exact I.ok.has _ (.inl k)
  ·exact I.ok.has _ (.inr k)
 generalize Bh:compEnvC scope (cellsFrom (s.heap.objs.size+1) scope.names (eZ X.env.cells scope.names [])) s.heap.objs.size X.env=gI;have kp:∀b o,s.heap.get? b=some o→(pushCells (s.heap.push { cls:=.type "dict",data:=.dict #[] }) scope.names).get? b=some o:=fun b o e=>pushCells_keeps _ _ _ _ (Heap.get?_push_of_some _ e);have hL:gI.locals=s.heap.objs.size:=by rw[←Bh];rfl
 have KC:gI.cells=cellsFrom (s.heap.objs.size+1) scope.names (eZ X.env.cells scope.names []):=by rw[←Bh];rfl
 have Wr:gI.scope=Zc scope X.env.scope:=by rw[←Bh];rfl
 rw[←Heap.size_push s.heap { cls:=.type "dict",data:=.dict #[] }] at KC;have cm:∀{y c},(y,c)∈eZ X.env.cells scope.names []→X.env.cells.lookup y=some c∧c<s.heap.objs.size:=fun {y c} hm=>by
  rcases lQ hm with hm | ⟨h1,rfl⟩
  ·cases hm
  ·obtain⟨c,hc⟩:=xN _ h1 rfl;rw[hc];obtain⟨w,z⟩:=I.cell _ _ hc;exact⟨rfl,z.lt⟩
 have mem:∀{y c},gI.cells.lookup y=some c→(X.env.cells.lookup y=some c∧c<s.heap.objs.size)∨(s.heap.objs.size+1≤c∧Mt (pushCells (s.heap.push { cls:=.type "dict",data:=.dict #[] }) scope.names) c none):=fun {y c} e=>by
  rw[KC] at e;rcases mz (PySem.mem_of_lookup e) with hm | ⟨_,h2,h3⟩
  ·exact .inl (cm hm)
  ·rw[Heap.size_push] at h2;exact .inr ⟨h2,h3⟩
 have look:∀{y},scope.names.lookup y=some .free→∃c,gI.cells.lookup y=some c∧X.env.cells.lookup y=some c:=fun {y} hl=>by
  have hy:(y,NameKind.free)∈scope.names:=PySem.mem_of_lookup hl;obtain⟨c',e'⟩:=mem_lookup (pZ (names:=scope.names) (n:=(s.heap.push { cls:=.type "dict",data:=.dict #[] }).objs.size) (pY (cells:=X.env.cells) (acc:=[]) hy));rw[←KC] at e';refine⟨c',e',?_⟩;rw[KC] at e';rcases mz (PySem.mem_of_lookup e') with hm | ⟨h1,_,_⟩
  ·exact(cm hm).1
  ·have:=ok.uniq _ h1;rw[hl] at this;cases this
 have Wt:(X.qc s H scope gI fp).Ok:=by
  refine⟨I.ok.mod,by show gI.scope.kind=_;rw[Wr];exact ok.kind,by show gI.globals=_;rw[←Bh];exact I.ok.glob,by show gI.builtins=_;rw[←Bh];exact I.ok.blt,by show s.heap.objs.size≤gI.locals;rw[hL];exact bB _,
   fun y z c e1 e2=>?_,fun y hy=>?_,fun y c z e=>?_,I.ok.hd,I.ok.frames,.inl rfl,fun b hb=>⟨?_,fun y c e z=>?_⟩,I.bs,bZ I.ok.zt I.sz,fun b o e hb=>?_,fun b hb z=>?_,I.stack,I.AQ⟩
  ·have e1:gI.cells.lookup y=some c:=e1;have e2:gI.cells.lookup z=some c:=e2;rw[KC] at e1 e2;refine uN (fun p hp=>?_) (fun y z c a b=>I.ok.inj y z c (cm a).1 (cm b).1) (PySem.mem_of_lookup e1) (PySem.mem_of_lookup e2);rw[Heap.size_push];exact Fy (cm (y:=p.1) (c:=p.2) hp).2
  ·show ∃c,gI.cells.lookup y=some c;have key:∀k,gI.kindOf y=some k→(k=.cell∨k=.free)→∃c,gI.cells.lookup y=some c:=fun k hk P4=>by
    unfold Env.kindOf at hk;rw[Wr] at hk;obtain⟨k',e,r⟩:=qa hk;have:k'=.cell∨k'=.free:=by
     rcases r with rfl | ⟨rfl,_⟩
     ·exact P4
     ·exact .inr rfl
    rcases this with rfl | rfl
    ·obtain⟨c,hm⟩:=uM (n:=(s.heap.push { cls:=.type "dict",data:=.dict #[] }).objs.size) (acc:=eZ X.env.cells scope.names []) (PySem.mem_of_lookup e);obtain⟨c',e'⟩:=mem_lookup hm;exact⟨c',by rw[KC];exact e'⟩
    ·obtain⟨c,h1,_⟩:=look e;exact⟨c,h1⟩
   rcases hy with hy | hy
   ·exact key _ hy (.inl rfl)
   ·exact key _ hy (.inr rfl)
  ·have z:(scope.names.lookup y==some NameKind.cell)=true:=z;have z:scope.names.lookup y=some .cell:=by simpa using z
   have e:gI.cells.lookup y=some c:=e;rw[KC] at e;rcases mz (PySem.mem_of_lookup e) with hm | ⟨_,h2,_⟩
   ·rcases lQ hm with hm | ⟨h1,_⟩
    ·cases hm
    ·have q:=ok.uniq _ h1;rw[z] at q;cases q
   ·rw[Heap.size_push] at h2;exact zu h2
  ·show b≠gI.locals;rw[hL];exact dJ (NB b hb).2
  ·have e:gI.cells.lookup y=some c:=e;rcases mem e with ⟨h1,_⟩ | ⟨h1,_⟩
   ·exact(NB b hb).1.2.2.2.2.1 y c h1 z
   ·have h2:s.heap.objs.size+1≤b:=by rw[←z];exact h1
    exact absurd (cg (NB b hb).2 (zu h2)) (i8 _)
  ·rcases (NB b hb).1.2.2.2.1 with z | z
   ·exact I.ok.yF b o e z
   ·exact absurd (cg (Heap.lt_size e) (bZ I.ok.zt z)) (i8 _)
  ·rcases cO.mp (I.Aj b z) with z | z
   ·exact(NB b hb).1.2.1 z
   ·exact(NB b hb).1.2.2.1 z
 refine⟨Wt,rfl,I.bare,Un.kept kp,⟨fun _=>none,?_,fun i y av e1 e2 e3=>?_⟩,fun y c e=>?_,?_,fun y c e=>?_,fun p hp=>?_,I.du.kept kp,by rw[qb];exact I.len⟩
 ·show Heap.Ns _ gI.locals _;rw[hL];exact Heap.Ns.keeps (Heap.Ns.new ..) fun b o e=>pushCells_keeps _ _ _ _ e
 ·obtain⟨e2,iY⟩:=uO e2;have Tb:scope.names.lookup y=some .free∧(gI.kindOf y=some .cell∨gI.kindOf y=some .free):=by
   have key:∀k,gI.scope.names.lookup y=some k→k=.local∨k=.cell∨k=.free→scope.names.lookup y=some .free∧(gI.kindOf y=some .cell∨gI.kindOf y=some .free):=fun k hk P4=>by
    have P5:=hk;rw[Wr] at hk;obtain⟨k',e,r⟩:=qa hk;have no:¬(k'=.local∨k'=.cell):=fun hh=>by
     rcases ok.own _ (PySem.mem_of_lookup e) hh with e' | e'
     ·obtain⟨p,hp,hpy⟩:=jy.mp e';have e3:=ok.ix p hp;have:p.1=y:=hpy;rw[this] at e3;exact iY (jy.mpr ⟨p,hp,xM hN e3 e1⟩)
     ·exact e' (uq e1)
    rcases r with rfl | ⟨rfl,rfl⟩
    ·rcases P4 with rfl | rfl | rfl
     ·exact absurd (.inl rfl) no
     ·exact absurd (.inr rfl) no
     ·exact⟨e,.inr P5⟩
    ·exact⟨e,.inl P5⟩
   have e3:Pl gI.scope y:=e3;rcases e3 with e3 | e3 | e3
   ·exact key _ e3 (.inl rfl)
   ·exact key _ e3 (.inr (.inl rfl))
   ·exact key _ e3 (.inr (.inr rfl))
  obtain⟨m,hn,hl⟩:=I.loc;have Zd:Pl X.env.scope y:=(ok.free _ (PySem.mem_of_lookup Tb.1) rfl).elim (fun k=>.inr (.inl k)) (fun k=>.inr (.inr k));obtain⟨w,r,q⟩:=hl i y av e1 e2 Zd;refine⟨w,r,.inr ⟨Tb.2,?_⟩⟩;obtain⟨c,h1,h2⟩:=look Tb.1;rcases q with ⟨k,_⟩ | ⟨_,c',e',z⟩
  ·have k:X.env.scope.names.lookup y=some .local:=k;rcases ok.free _ (PySem.mem_of_lookup Tb.1) rfl with k' | k'<;>rw[show X.env.scope.names.lookup y=_ from k'] at k<;>cases k
  ·rw[h2] at e';cases e';exact⟨c,h1,z.keeps kp⟩
 ·have e:gI.cells.lookup y=some c:=e;rcases mem e with ⟨h1,_⟩ | ⟨_,z⟩
  ·obtain⟨w,z⟩:=I.cell y c h1;exact⟨w,z.keeps kp⟩
  ·exact⟨_,z⟩
 ·show H gI.locals=none;rw[hL];exact I.du.fresh (bB _)
 ·have e:gI.cells.lookup y=some c:=e;rcases mem e with ⟨h1,_⟩ | ⟨h1,_⟩
  ·exact I.ka y c h1
  ·exact I.du.fresh (zu h1)
 ·exact absurd (show p∈([]:List (Addr×Obj))++[] from hp) (by simp)
theorem Tc {E:Value→Shared→Prop} {D:Addr} {xs:List V} {y:V} {v:Value} {Q:Value→Shared→Prop} (I:Inv X pins σ H s) (hD:H D=some (.lst xs)) (hz:xs.length<sizeLine) (r:RelV y v)
  (h:∀s',Inv X pins σ (upd H D (.lst (xs++[y]))) s'→Q .none s'):wpAny (model X.prog X.w) X.A (call (.builtin "list.append") [.ref D,v]) Q E s:=by
 obtain⟨hz',bq,n,ri,e⟩:=I.du D _ hD;have hl:=ri.length;refine append_at (hsz:=by rw[cz];omega) e fun h' sb xK=>?_;refine h { s with heap:=h' } (I.write (t':=s.toks) (by rw[hD];trivial) (.inl rfl) (fun b u hb q=>(sb.2 b hb).trans q) ⟨_,xK⟩ ⟨by rw[cT];exact hz,bq++[v],n+1,ri.append (.cons r .nil),?_⟩);rw[xK];simp
def Td (X:Cx) (ifs:List Expr) (t:TT):Prop :=
 ∀(pins:List (Addr×Obj)) (s:Shared) (σ:St) (H:Hp) (Q:Bool→Hp→Prop),Inv X pins σ H s→t σ H Q →
  wpAny (model X.prog X.w) X.A (forIn ifs true fun c r=>if r=true then do let ok ←isTrue c X.env (eval c X.env);pure (ForInStep.yield ok) else pure (ForInStep.yield r)) (TP X pins σ Q) X.xe s
def Vu:TT:=fun _ H Q=>Q true H
theorem kh:Td X [] Vu:=fun _ _ _ H _ I h=>wpAny_tests_nil ⟨H,I,h⟩
end
theorem EX {α:Type} {t:Sem α} {Q Q':α→Shared→Prop} {M:Model} {A:Around} {E:Value→Shared→Prop} {s:Shared} (h:wpAny M A t Q (fun _ _=>False) s) (hQ:∀a s,Q a s→Q' a s):wpAny M A t Q' E s:=wpAny_mono h hQ fun _ _ z=>False.elim z
theorem DS {prog:Program} {w:World} {A:Around} {R:Result→Shared→Prop} {s:Shared} {elt target iter:Expr} {ifs:List Expr} {scope:Scope} {pos:Pos} {it acc:Value} {env:Env} (I:Nat→Shared→Prop)
  (turn:∀n s,I n s→wpAny (model prog w) A (pyNext it) (fun r s₁=>match r with
   | none=>R (.ok .next) s₁
   | some v=>wpAny (model prog w) A (letOwnedTupleGo target it v) (fun _ s₁'=>wpAny (model prog w) A (assign target env v) (fun _ s₂ =>
    wpAny (model prog w) A (forIn ifs true fun c r=>if r=true then do let ok ←isTrue c env (eval c env);pure (ForInStep.yield ok) else pure (ForInStep.yield r)) (fun ok s₃ =>
     if ok=true then wpAny (model prog w) A (eval elt env) (fun x s₄ =>
      wpAny (model prog w) A (call (.builtin "list.append") [acc,x]) (fun _ s₅=>∃m,m<n∧I m s₅) (notedBy (model prog w) A env fun e s'=>R (.error e) s') s₄) (notedBy (model prog w) A env fun e s'=>R (.error e) s') s₃
     else ∃m,m<n∧I m s₃) (notedBy (model prog w) A env fun e s'=>R (.error e) s') s₂) (notedBy (model prog w) A env fun e s'=>R (.error e) s') s₁') (notedBy (model prog w) A env fun e s'=>R (.error e) s') s₁) (notedBy (model prog w) A env fun e s'=>R (.error e) s') s)
  (n:Nat) (h:I n s) :
  codeAny (model prog w) A (.compLoop (.ListComp elt [⟨target,iter,ifs,0⟩] scope pos) 0 it acc env) R s:=by
 refine codeAny_loop rfl I (fun n s hI=>?_) n h;show wpAny _ A ((compTurn (.ListComp elt [⟨target,iter,ifs,0⟩] scope pos) 0 it acc env).onRaise (fun x=>do noteFrame x env;theTreesLotGoes x)) _ _ s;refine wpAny_noted ?_;rw[compTurn_list];refine wpAny_bind (wpAny_standAt (wpAny_bind (wpAny_mono (turn n s hI) (fun r s₁ h₁=>?_) fun _ _ h'=>h')));cases r with
 | none=>exact wpAny_pure h₁
 | some v =>
  refine wpAny_bind (wpAny_mono h₁ (fun _ s₁' h₁'=>?_) fun _ _ h'=>h');refine wpAny_bind (wpAny_mono h₁' (fun _ s₂ h₂=>wpAny_bind (wpAny_mono h₂ (fun ok s₃ h₃=>?_) fun _ _ h'=>h')) fun _ _ h'=>h');cases ok with
  | false=>exact wpAny_pure ⟨rfl,h₃⟩
  | true =>
   exact wpAny_bind (wpAny_bind (wpAny_mono h₃ (fun x s₄ h₄=>wpAny_bind (wpAny_mono h₄ (fun _ s₅ h₅=>wpAny_pure (wpAny_pure ⟨rfl,h₅⟩)) fun _ _ h'=>h')) fun _ _ h'=>h'))
section
variable {X:Cx}
def Te (wi:TI) (g:TG) (tt:TT) (te:TE) (vs:List Nat):TE:=fun σ H Q=>wi σ H fun J H1=>∀D,H1 D=none→∃W:Nat→Nat→Hp→Prop,(∃m,W 0 m (upd H1 D (.lst [])))∧∀i m H,W i m H →
 (J.stop i H∧Q (.ref D) H)∨(J.go i H∧∃Nx:Hp→Prop,(∀H',Nx H'→∃m',m'<m∧W (i+1) m' H')∧∀x H',J.Kn i H x H'→g x (wipe σ vs) H' fun σ2 H2=>wipe σ2 vs=wipe σ vs∧tt σ2 H2 fun b H3 =>
  if b=true then te σ2 H3 fun y H4=>∃acc,H4 D=some (.lst acc)∧acc.length<sizeLine∧Nx (upd H4 D (.lst (acc++[y]))) else Nx H3)
theorem HZ {pins:List (Addr×Obj)} {s:Shared} {σ:St} {H:Hp} {Q:VK} {elt tg iter:Expr} {ifs:List Expr} {scope:Scope} {own:List (Str×Nat)} {pos pos':Pos} {wi:TI} {g:TG} {tt:TT} {te:TE} {use:Option (Value→Sem Unit)} {Qf:Value→Shared→Prop}
  (hc:X.calm=true) (hN:X.N.Nodup) (I:Inv X pins σ H s) (hi:PI X tg iter wi) (ok:Bg X.N X.env.scope scope own)
  (hg:∀(s:Shared) (H:Hp) (C:Addr) (cl:List (Str×Addr)) (fp:List Addr),PG (X.qc s H scope (compEnvC scope cl C X.env) fp) tg g) (ht:∀(s:Shared) (H:Hp) (C:Addr) (cl:List (Str×Addr)) (fp:List Addr),Td (X.qc s H scope (compEnvC scope cl C X.env) fp) ifs tt)
  (he:∀(s:Shared) (H:Hp) (C:Addr) (cl:List (Str×Addr)) (fp:List Addr),PE (X.qc s H scope (compEnvC scope cl C X.env) fp) elt te) (hs:∀x,foldedSetIterable iter X.env x=pure x)
  (h:Te wi g tt te (own.map (·.2)) σ H Q)
  (hRR:∀D C s' m H',Inv X pins σ H' s'→Q (.ref D) H'→s'.heap.Ns C m→qE X pins H' C→compPost (model X.prog X.w) X.A X.xe use Qf (.ref D) C (.ok .next) s') :
  wpAny (model X.prog X.w) X.A (comprehension (.ListComp elt [⟨tg,iter,ifs,0⟩] scope pos) scope X.env pos' (newList []) false (eval iter X.env) use) Qf X.xe s:=by
 have xN:∀y∈scope.names,y.2=.free→∃c,X.env.cells.lookup y.1=some c:=fun y hy e=>by
  rcases ok.free y hy e with k | k
  ·exact I.ok.has _ (.inl k)
  ·exact I.ok.has _ (.inr k)
 refine wpAny_comprehension_free (use:=use) rfl hs (HY xN) ok.kind (fun y hy e=>by rw[ok.uniq y hy,e])
  (dA (hi pins s σ H _ I h) fun xv s1 hx=>dA hx fun V9 s2 h2=>?_)
 obtain⟨it,fp,tn,J,H2,e,I2,T,oR,f2,q⟩:=h2;subst e;refine wpAny_newObj_type (FZ ?_) (by show 0≤sizeLine;decide);generalize hD:s2.heap.objs.size=D;have hDn:H2 D=none:=I2.du.fresh (zq hD);obtain⟨W,⟨m0,w0⟩,turn⟩:=q D hDn;generalize Ze:({ s2 with heap:=s2.heap.push { cls:=.type "list",data:=.seq ([]:List Value).toArray } }:Shared)=s3;have I3:Inv X pins σ (upd H2 D (.lst [])) s3:=by
  rw[←Ze];refine I2.laid (t':=s2.toks) (fun b o e=>Heap.get?_push_of_some _ e) (zq hD) ⟨iC _,[],0,.nil,?_⟩;rw[←hD];exact Heap.get?_push_size _ rfl
 have h3:s3.heap=s2.heap.push { cls:=.type "list",data:=.seq ([]:List Value).toArray }:=by rw[←Ze]
 have sz:∀b∈fp,b<s2.heap.objs.size:=fun b hb=>by
  obtain⟨o,e,_⟩:=T.obj _ _ oR b hb;exact Heap.lt_size e
 have f3:∀b∈fp,qE X pins (upd H2 D (.lst [])) b∧b<s3.heap.objs.size:=fun b hb=>by
  have oU:=sz b hb;refine⟨⟨?_,(f2 b hb).2⟩,by rw[h3,Heap.size_push];exact Fy oU⟩;rw[b7 (by rw[←hD];exact dJ oU)];exact(f2 b hb).1
 have SO:tn 0 s3.heap:=T.keep _ _ _ oR fun b _ o e=>by rw[h3];exact Heap.get?_push_of_some _ e
 have I4:=F4 I3 ok hN f3;have pg:=hg s3 (upd H2 D (.lst [])) s3.heap.objs.size (cellsFrom (s3.heap.objs.size+1) scope.names (eZ X.env.cells scope.names [])) fp;have pt:=ht s3 (upd H2 D (.lst [])) s3.heap.objs.size (cellsFrom (s3.heap.objs.size+1) scope.names (eZ X.env.cells scope.names [])) fp;have pe:=he s3 (upd H2 D (.lst [])) s3.heap.objs.size (cellsFrom (s3.heap.objs.size+1) scope.names (eZ X.env.cells scope.names [])) fp;show codeAny _ _ (.compStart (.ListComp elt [⟨tg,iter,ifs,0⟩] scope pos) 0 (.ref it) (.ref D) (compEnvC scope (cellsFrom (s3.heap.objs.size+1) scope.names (eZ X.env.cells scope.names [])) s3.heap.objs.size X.env)) (compPost (model X.prog X.w) X.A X.xe use Qf (.ref D) s3.heap.objs.size) { s3 with heap:=pushCells (s3.heap.push { cls:=.type "dict",data:=.dict #[] }) scope.names };have Zf:∀b∈fp,(upd H2 D (.lst [])) b=none:=fun b hb=>(f3 b hb).1.1;generalize hce:compEnvC scope (cellsFrom (s3.heap.objs.size+1) scope.names (eZ X.env.cells scope.names [])) s3.heap.objs.size X.env=ce at I4 pg pt pe ⊢;have cL:ce.locals=s3.heap.objs.size:=by subst hce;rfl
 generalize hH3:upd H2 D (.lst [])=H3 at I3 I4 pg pt pe w0 Zf f3;generalize hs4:({ s3 with heap:=pushCells (s3.heap.push { cls:=.type "dict",data:=.dict #[] }) scope.names }:Shared)=s4 at I4 ⊢;have Zg:tn 0 s4.heap:=T.keep _ _ _ SO fun b _ o e=>by rw[←hs4];exact pushCells_keeps _ _ _ _ (Heap.get?_push_of_some _ e)
 have AY:∀{σ':St} {H':Hp} {s':Shared},Inv (X.qc s3 H3 scope ce fp) [] σ' H' s'→(∀b∈fp,H' b=none)→∀b∈fp,qE (X.qc s3 H3 scope ce fp) [] H' b:=fun {σ' H' s'} I' hn b hb =>
  ⟨hn b hb,(I'.ok.AO b hb).1,I'.ok.yG b hb,.inl hb,fun x c e=>(I'.ok.AO b hb).2 x c e,fun p hp=>absurd (show p∈([]:List (Addr×Obj))++[] from hp) (by simp)⟩
 have loop:codeAny (model X.prog X.w) X.A (.compLoop (.ListComp elt [⟨tg,iter,ifs,0⟩] scope pos) 0 (.ref it) (.ref D) ce) (compPost (model X.prog X.w) X.A X.xe use Qf (.ref D) s3.heap.objs.size) s4:=by
  refine DS (fun n s'=>∃i H',Inv (X.qc s3 H3 scope ce fp) [] (wipe σ (own.map (·.2))) H' s'∧tn i s'.heap∧(∀b∈fp,H' b=none)∧W i n H') ?_ m0 ⟨0,H3,I4,Zg,Zf,w0⟩;rintro n s5 ⟨i,H5,I5,Nl,n5,w5⟩;rcases turn i n H5 w5 with ⟨stop,qq⟩ | ⟨go,Nx,hNx,step⟩
  ·have td:=T.done (X.qc s3 H3 scope ce fp) rfl rfl rfl hc i [] s5 _ H5 (fun _ _=>False) I5 (AY I5 n5) Nl stop;refine EX td fun r s6 ⟨hr,I6⟩=>?_;subst hr;have I7:Inv X pins σ H5 s6:=I3.FQ (ch:=fp) I6.os I6.base I6.du I6.bare fun b hb=>⟨(f3 b hb).1.2.2.2.1,(f3 b hb).1.2.1,(f3 b hb).1.2.2.2.2.1,(f3 b hb).1.2.2.2.2.2⟩;have nC:H5 s3.heap.objs.size=none:=by
    have z:H5 ce.locals=none:=I6.free;rw[cL] at z;exact z
   obtain⟨m,hn,_⟩:=I6.loc;have hn:s6.heap.Ns ce.locals m:=hn;rw[cL] at hn;exact hRR D s3.heap.objs.size s6 m H5 I7 qq hn (I3.EM (bB _) nC)
  ·have ti:=T.item (X.qc s3 H3 scope ce fp) rfl rfl rfl hc i [] s5 _ H5 (fun _ _=>False) I5 (AY I5 n5) Nl go;refine EX ti fun r s6 ⟨u,hr,h6⟩=>?_;subst hr;refine EX h6 fun _ s7 ⟨x,H7,I7,r7,y7,Ww,n7⟩=>?_;have I7':=I7.pinned (AY I7 n7) (T.obj _ _ Ww);refine EX (pg _ s7 _ H7 x u _ I7' r7 (step x H7 y7)) fun _ s8 ⟨σ8,H8,I8,Zh,q8⟩=>?_;refine EX (pt _ s8 σ8 H8 _ I8 q8) fun b s9 ⟨H9,I9,q9⟩=>?_;have fin:∀{s':Shared} {H':Hp},Inv (X.qc s3 H3 scope ce fp) ([]++vJ fp s7.heap) σ8 H' s'→Nx H'→∃m,m<n∧∃i H',Inv (X.qc s3 H3 scope ce fp) [] (wipe σ (own.map (·.2))) H' s'∧tn i s'.heap∧(∀b∈fp,H' b=none)∧W i m H':=fun {s' H'} I' nx=>by
    obtain⟨m',hm,w'⟩:=hNx H' nx;have Vv:∀b∈fp,∀o,s7.heap.get? b=some o→s'.heap.get? b=some o∧H' b=none:=fun b hb o e =>
     let z:=I'.pin (b,o) (kg _ (kg _ (rj hb e)))
     ⟨z.1,z.2.1⟩
    have hl:(wipe σ (own.map (·.2))).length=σ8.length:=by rw[←Zh,qb]
    refine⟨m',hm,i+1,H',(I'.sO (pins:=[])).weak hl (fun j v e=>?_),T.keep _ _ _ Ww fun b hb o e=>(Vv b hb o e).1,fun b hb=>?_,w'⟩
    ·rw[←Zh] at e;exact(uO e).1
    ·obtain⟨o,e,_⟩:=T.obj _ _ Ww b hb;exact(Vv b hb o e).2
   cases b with
   | false =>
    simp only[aO,aM] at q9 ⊢;exact fin I9 q9
   | true =>
    simp only[aJ] at q9 ⊢;refine EX (pe _ s9 σ8 H9 _ I9 q9) fun z s10 ⟨yv,H10,I10,Wx,acc,Zi,rC,nx⟩=>?_;exact Tc (X:=X.qc s3 H3 scope ce fp) I10 Zi rC Wx fun s11 I11=>fin I11 nx
 exact codeAny_compStart_list loop (T.self X.A 0 _ _ _ Zg loop)
theorem uP {elt tg iter:Expr} {ifs:List Expr} {scope:Scope} {own:List (Str×Nat)} {pos:Pos} {wi:TI} {g:TG} {tt:TT} {te:TE} (hc:X.calm=true) (hN:X.N.Nodup) (hi:PI X tg iter wi) (ok:Bg X.N X.env.scope scope own)
  (hg:∀(s:Shared) (H:Hp) (C:Addr) (cl:List (Str×Addr)) (fp:List Addr),PG (X.qc s H scope (compEnvC scope cl C X.env) fp) tg g) (ht:∀(s:Shared) (H:Hp) (C:Addr) (cl:List (Str×Addr)) (fp:List Addr),Td (X.qc s H scope (compEnvC scope cl C X.env) fp) ifs tt)
  (he:∀(s:Shared) (H:Hp) (C:Addr) (cl:List (Str×Addr)) (fp:List Addr),PE (X.qc s H scope (compEnvC scope cl C X.env) fp) elt te) (hs:autoParam (∀x,foldedSetIterable iter X.env x=pure x) Ho) :
  PE X (.ListComp elt [⟨tg,iter,ifs,0⟩] scope pos) (Te wi g tt te (own.map (·.2))):=by
 intro pins s σ H Q I h;rw[eval_ListComp];refine HZ hc hN I hi ok hg ht he hs h fun D C s' m H' I' q hn f=>⟨m,hn,fun Ia sb=>?_⟩;obtain⟨f0,f1,f2,f3,f4,f5⟩:=f;exact⟨.ref D,H',I'.turned (t':=s'.toks) (fun b o hb e=>(sb.2 b hb).trans e) f0 f1 f3 f4 f5,rfl,q⟩
theorem EY {i:Nat} {y:Str} {py:Pos} {elt tg iter:Expr} {ifs:List Expr} {scope:Scope} {own:List (Str×Nat)} {pos Vw:Pos} {wi:TI} {g:TG} {tt:TT} {te:TE} (hc:X.calm=true) (hN:X.N.Nodup) (hy:X.N[i]?=some y) (Zj:X.env.scope.names.lookup y=some .local)
  (hsw:swapsWith (.ListComp elt [⟨tg,iter,ifs,0⟩] scope pos) (some (.Name y py)) Vw.line X.env=pure true) (hi:PI X tg iter wi) (ok:Bg X.N X.env.scope scope own)
  (hg:∀(s:Shared) (H:Hp) (C:Addr) (cl:List (Str×Addr)) (fp:List Addr),PG (X.qc s H scope (compEnvC scope cl C X.env) fp) tg g) (ht:∀(s:Shared) (H:Hp) (C:Addr) (cl:List (Str×Addr)) (fp:List Addr),Td (X.qc s H scope (compEnvC scope cl C X.env) fp) ifs tt)
  (he:∀(s:Shared) (H:Hp) (C:Addr) (cl:List (Str×Addr)) (fp:List Addr),PE (X.qc s H scope (compEnvC scope cl C X.env) fp) elt te) (hs:autoParam (∀x,foldedSetIterable iter X.env x=pure x) Ho) :
  PS X (.Assign [.Name y py] (.ListComp elt [⟨tg,iter,ifs,0⟩] scope pos) Vw) (Mh (Te wi g tt te (own.map (·.2))) (AW i)):=by
 intro pins s σ H D I h;rw[exec_Assign_Name_used _ _ _ _ hsw];refine wpAny_bind (wpAny_standAt (wpAny_bind ?_));show wpAny _ X.A (do let _ ←comprehension (.ListComp elt [⟨tg,iter,ifs,0⟩] scope pos) scope X.env (firstIterPos [⟨tg,iter,ifs,0⟩] pos) (newList []) false (eval iter X.env) (some (assign (.Name y py) X.env))) _ _ s;have h:Te wi g tt te (own.map (·.2)) σ H (fun x H1=>AW i x σ H1 D.nx):=h;refine wpAny_bind (dA (HZ (Qf:=fun _ s'=>SP X pins D .next s') hc hN I hi ok hg ht he hs h fun L C s' m H' I' q hn f=>?_) fun _ s' hq=>wpAny_pure (wpAny_pure hq));show wpAny _ _ (assign (.Name y py) X.env (.ref L)) _ _ _;refine wpAny_assign_Name (AS (v:=V.ref L) I' hN hy (.inl Zj) rfl (fun s2 I2 ⟨a,sb,ha⟩=>?_) (.inr Zj));obtain⟨f0,f1,f2,f3,f4,f5⟩:=f;have haC:C≠a:=by
  rcases ha with z | z
  ·rw[z];exact f1
  ·exact fun e=>f4 y a z e.symm
 refine⟨m,hn.sameBut sb haC,fun h3 Wy=>?_⟩;exact⟨_,H',I2.turned (t':=s2.toks) (fun b o hb e=>(Wy.2 b hb).trans e) f0 f1 f3 f4 f5,q⟩
theorem Ib {elt:Expr} {gs:List Comprehension} {scope:Scope} {pos py:Pos} {y:Str} {l:Nat} {env:Env} (hk:env.scope.kind=.function) (hy:env.scope.names.lookup y=some .local) (hl:(py.line==pos.line)=true)
  (ha:(scope.names.any fun (n,k)=>n==y&&(k==.local||k==.cell))=false):swapsWith (.ListComp elt gs scope pos) (some (.Name y py)) l env=pure true:=by
 have ky:env.kindOf y=some .local:=hy;have hb:env.blockKind=.function:=by unfold Env.blockKind;rw[hk];rfl
 unfold swapsWith;simp only[hb,ky,ha,Expr.pos,hl];rfl
end
def Vx (N:List Str) (sc scope:Scope) (own:List (Str×Nat)):Bool :=
 (match scope.kind with | .function=>true | _=>false)&&(scope.names.all fun y=>decide (scope.names.lookup y.1=some y.2))&&(own.all fun p=>decide (N[p.2]?=some p.1)) &&
  (scope.names.all fun y=>match y.2 with
   | .free=>(match sc.names.lookup y.1 with | some .cell=>true | some .free=>true | _=>false)
   | .local=>decide (y.1∈own.map (·.1))||decide (y.1∉N)
   | .cell=>decide (y.1∈own.map (·.1))||decide (y.1∉N)
   | _=>true)
theorem jl {N:List Str} {sc scope:Scope} {own:List (Str×Nat)} (h:Vx N sc scope own=true):Bg N sc scope own:=by
 unfold Vx at h;simp only[b5,nB,dH] at h;obtain⟨⟨⟨h1,h2⟩,h3⟩,h4⟩:=h;refine⟨?_,h2,h3,fun y hy e=>?_,fun y hy e=>?_⟩
 ·split at h1
  ·assumption
  ·cases h1
 ·have q:=h4 y hy;simp only[e] at q;split at q<;>first | exact .inl (by assumption) | exact .inr (by assumption) | cases q
 ·have q:=h4 y hy;rcases e with e | e<;>(simp only[e,bR,dH] at q;exact q)
end L2
namespace L2
open PySem PySem.Spec PyProof.Rows
theorem zA:bootBuiltins "reversed"=some (.type "reversed"):=by decide +kernel
section
variable {X:Cx} {pins:List (Addr×Obj)} {σ:St} {H:Hp} {s:Shared} {h':Heap}
theorem Inv.P6 {t':Nat} {ch:List Addr} (I:Inv X pins σ H s) (k:∀b o,b∉ch→s.heap.get? b=some o→h'.get? b=some o) (hf:∀b∈ch,qE X pins H b):Inv X pins σ H { s with heap:=h',toks:=t' }:=by
 have Ht:∀b u,H b=some u→b∉ch:=fun b u e z=>by
  have q:=(hf b z).1;rw[q] at e;cases e
 refine I.step (g':=s.gens) (d':=s.drawn) (ch:=ch) (fun b hb=>⟨(hf b hb).2.2.2.1,(hf b hb).2.1,(hf b hb).2.2.2.2.1,(hf b hb).2.2.2.2.2⟩) (fun b o _ _ hc e _=>k b o hc e) (fun b o _ _ hc e _=>⟨o.slots,k b o hc e⟩)
  (fun _ _ _ _ n=>n) (fun b o hc e=>⟨o,k b o hc e⟩) (fun _ _ e=>e) (fun _ _ _ e=>e) (fun b ps e=>⟨#[],by rw[e];simp⟩) (fun m hm=>?_) (fun b u e=>?_) I.bare
 ·obtain⟨o,es,ep,ho,r⟩:=hm;exact⟨o,es,ep,k _ o (fun z=>(hf _ z).2.1 rfl) ho,r⟩
 ·refine(I.du b u e).yE (fun c v hc q=>k c v ?_ q) (fun _ q=>q) fun _ _ q=>q;rcases hc with z | z
  ·rw[z];exact Ht b u e
  ·exact Ht c _ z
theorem Inv.Bi {t':Nat} {ch:List Addr} {T:Addr} {ob:HO} (I:Inv X pins σ H s) (k:∀b o,b∉ch→s.heap.get? b=some o→h'.get? b=some o) (hf:∀b∈ch,qE X pins H b) (hT:s.heap.objs.size≤T)
  (new:g5 X.prog X.w (upd H T ob) h' T ob):Inv X pins σ (upd H T ob) { s with heap:=h',toks:=t' }:=by
 have hn:H T=none:=I.du.fresh hT;have Ht:∀b u,H b=some u→b∉ch:=fun b u e z=>by
  have q:=(hf b z).1;rw[q] at e;cases e
 refine I.step (g':=s.gens) (d':=s.drawn) (ch:=ch) (fun b hb=>⟨(hf b hb).2.2.2.1,(hf b hb).2.1,(hf b hb).2.2.2.2.1,(hf b hb).2.2.2.2.2⟩) (fun b o _ _ hc e _=>k b o hc e) (fun b o _ _ hc e _=>⟨o.slots,k b o hc e⟩)
  (fun b o _ e n=>?_) (fun b o hc e=>⟨o,k b o hc e⟩) (fun b xs e=>?_) (fun b o u e=>?_) (fun b ps e=>⟨#[],?_⟩) (fun m hm=>?_) (fun b u e=>?_) I.bare
 ·rw[b7 (dJ (cg (Heap.lt_size e) hT))];exact n
 ·rw[b7 (dc e hn)];exact e
 ·rw[b7 (dc e hn)];exact e
 ·rw[b7 (dc e hn),e];simp
 ·obtain⟨o,es,ep,ho,r⟩:=hm;exact⟨o,es,ep,k _ o (fun z=>(hf _ z).2.1 rfl) ho,r⟩
 ·by_cases hb:b=T
  ·subst hb;rw[aL] at e;cases e;exact new
  ·rw[b7 hb] at e;refine(I.du b u e).yE (fun c v hc q=>k c v ?_ q) (fun c q=>by rw[b7 (dc q hn)];exact q) fun c xs q=>by rw[b7 (dc q hn)];exact q
   rcases hc with z | z
   ·rw[z];exact Ht b u e
   ·exact Ht c _ z
end
section
variable {X:Cx}
theorem Ap {tg:Expr} {pins:List (Addr×Obj)} {σ:St} {H:Hp} {s:Shared} {R:It→Hp→Prop} {J:It} {tn:Nat→Heap→Prop} {tk:Nat} (I:Inv X pins σ H s) (o:Obj)
  (T:Turn X.prog X.w X.K tg J [s.heap.objs.size] s.heap.objs.size tn) (st:tn 0 (s.heap.push o)) (q:R J H):V8 X pins σ tg R (.ref s.heap.objs.size) { s with heap:=s.heap.push o,toks:=tk }:=by
 refine⟨s.heap.objs.size,[s.heap.objs.size],tn,J,H,rfl,I.kept fun b ob e=>Heap.get?_push_of_some _ e,T,st,fun b hb=>?_,q⟩;have e:b=s.heap.objs.size:=by simpa using hb
 subst e;exact I.EM (bB _) (I.du.fresh (bB _))
end
def Zk (lo c:Int) (n:Nat):It:=⟨fun i _=>i<n,fun i H x H'=>H'=H∧x=.int (lo+(i:Nat)*c),fun i _=>n≤i⟩
theorem F5 {P:Program} {w:World} {K:aP} {tg:Expr} (it:Addr) (lo c:Int) (n:Nat):Turn P w K tg (Zk lo c n) [it] it (fun i h=>IsRangeIter h it (lo+(i:Nat)*c) ((n:Int)-(i:Nat)) c) where
 mem:=by simp
 obj:=fun i h st b hb=>by
  have e:b=it:=by simpa using hb
  subst e;exact⟨_,st,fun v z=>nomatch z⟩
 keep:=fun i h h' st k=>k it (by simp) _ st
 item:=by
  intro X hP hw hK hc i pins s σ H E I hf st hg;subst hP hw hK;obtain⟨f0,f1,f2,f3,f4,f5⟩:=hf it (by simp);have W:=Walks.range (prog:=X.prog) (w:=X.w) (I.ok.hd hc) it lo c n;refine W.item i s _ _ hg st fun v h' tk hv qR kk=>?_;obtain⟨t,rfl⟩:=hv;have I1:Inv X pins σ H { s with heap:=h',toks:=tk }:=I.turned (fun b o hb e=>kk b o (by simpa using hb) e) f0 f1 f3 f4 f5;exact⟨_,rfl,AX (s:={ s with heap:=h',toks:=tk }) (n:="range_iterator") qR rfl rfl Ke ⟨.int (lo+(i:Nat)*c),H,I1,⟨t,rfl⟩,⟨rfl,rfl⟩,qR,fun b hb=>(hf b hb).1⟩⟩
 done:=by
  intro X hP hw hK hc i pins s σ H E I hf st hg;subst hP hw hK;obtain⟨f0,f1,f2,f3,f4,f5⟩:=hf it (by simp);exact wpAny_pyNext_range_end (I.ok.hd hc) st (by have:n≤i:=hg;omega) fun h' eb=>⟨rfl,I.turned (t':=s.toks) (fun b o hb e=>eb b o hb e) f0 f1 f3 f4 f5⟩
 self:=fun A i s Q E st h=>wpAny_pyIter_rangeiter st h
def Wz (i j c:Int) (n:Nat):Prop:=c≠0∧c.natAbs<1073741824∧Builtin.Range.small i j c=true∧Builtin.Range.rangeSize i j c=n
def WA (ta:TA):TI:=fun σ H R=>ta σ H fun vs H1=>∃(i j c:Int) (n:Nat),vs=[.int i,.int j,.int c]∧Wz i j c n∧R (Zk i c n) H1
section
variable {X:Cx} {tg:Expr}
theorem KD {a b c:Expr} {ta:TA} {p pos:Pos} (hg:Gl X "range") (hm:X.mg "range"=none) (ha:PA X [a,b,c] ta)
  (hs:autoParam (starEach [a,b,c] X.env=(false,eval a X.env)::starEach [b,c] X.env) cW) (gH:autoParam ((backTo pos (starEach [b,c] X.env)).any (·.1)=false) cW) :
  PI X tg (.Call (.Name "range" p) [a,b,c] [] pos) (WA ta):=by
 intro pins s σ H R I h;refine Call_ (sI I hg hm boot_range (tU (dA (ha pos pins s σ H _ I h) fun us s1 ⟨vs,H1,I1,r1,q1⟩=>?_) hs gH));obtain⟨i,j,k,n,e,⟨c0,c1,c2,c3⟩,q⟩:=q1;subst e;cases r1 with
 | cons r rr =>
  cases rr with
  | cons r' rr =>
   cases rr with
   | cons r'' rr =>
    cases rr;obtain⟨t,rfl⟩:=r;obtain⟨t',rfl⟩:=r';obtain⟨t'',rfl⟩:=r'';refine call_range_3 c0 ?_ (.inl (PyProof.noPylong_small c1));refine wpAny_pyIter_range (IsRange.new ..) c2 ?_;have I2:Inv X pins σ H1 { s1 with heap:=s1.heap.push { cls:=.type "range",data:=.fields #[.int i t,.int j t',.int k t''] } }:=I1.kept (t':=s1.toks) fun b o e=>Heap.get?_push_of_some _ e;refine Ap (tk:=s1.toks) I2 _ (F5 _ i k n) ?_ q;have e1:i+((0:Nat):Int)*k=i:=by simp
    have e2:(n:Int)-((0:Nat):Int)=Builtin.Range.rangeSize i j k:=by rw[c3];simp
    show IsRangeIter _ _ (i+((0:Nat):Int)*k) ((n:Int)-((0:Nat):Int)) k;rw[e1,e2];exact Heap.get?_push_size _ rfl
end
section
variable {X:Cx} {tg:Expr}
end
def Zl (x:Str):It:=⟨fun i _=>i<x.cps.size,fun i H v H'=>H'=H∧∃c,x.cps[i]?=some c∧v=.str ⟨#[c]⟩,fun i _=>x.cps.size≤i⟩
theorem EZ {P:Program} {w:World} {K:aP} {tg:Expr} (it:Addr) (x:Str) (t:Tok) (ty:String) (Nz:ty="str_ascii_iterator"∨ty="str_iterator") :
  Turn P w K tg (Zl x) [it] it (fun i h=>h.IsStrIter it ty x t i) where
 mem:=by simp
 obj:=fun i h st b hb=>by
  have e:b=it:=by simpa using hb
  subst e;obtain⟨o,e,c,d⟩:=st;exact⟨o,e,fun v z=>by rw[d] at z;cases z⟩
 keep:=fun i h h' st k=>let ⟨o,ho,r⟩:=st;⟨o,k it (by simp) o ho,r⟩
 item:=by
  intro X hP hw hK hc i pins s σ H E I hf st hg;subst hP hw hK;obtain⟨f0,f1,f2,f3,f4,f5⟩:=hf it (by simp);have W:Walks X.prog X.w X.A it [it] [it] x.cps.size (SignAt x) (fun i h=>h.IsStrIter it ty x t i):=by
   rcases Nz with e | e
   ·rw[e];exact Walks.strAscii (I.ok.hd hc) it x t
   ·rw[e];exact Walks.strWide (I.ok.hd hc) it x t
  have PX:["enumerate","zip","dict_itemiterator","dict_reverseitemiterator","odict_iterator","itertools.zip_longest","itertools.pairwise"].contains ty=false:=by
   rcases Nz with e | e
   ·rw[e];decide
   ·rw[e];decide
  refine W.item i s _ _ hg st fun v h' tk hv qR kk=>?_;obtain⟨c,u,hcx,rfl⟩:=hv;have I1:Inv X pins σ H { s with heap:=h',toks:=tk }:=I.turned (fun b o hb e=>kk b o (by simpa using hb) e) f0 f1 f3 f4 f5;obtain⟨oi,e,cc,dd⟩:=id qR;exact⟨_,rfl,AX (s:={ s with heap:=h',toks:=tk }) e cc dd PX ⟨.str ⟨#[c]⟩,H,I1,⟨u,rfl⟩,⟨rfl,c,hcx,rfl⟩,qR,fun b hb=>(hf b hb).1⟩⟩
 done:=by
  intro X hP hw hK hc i pins s σ H E I hf st hg;subst hP hw hK;obtain⟨f0,f1,f2,f3,f4,f5⟩:=hf it (by simp);have hx:x.cps[i]?=none:=Array.getElem?_eq_none hg;rcases Nz with e | e
  ·rw[e] at st;exact wpAny_pyNext_ascii_end (I.ok.hd hc) st hx fun h' eb=>⟨rfl,I.turned (t':=s.toks) (fun b o hb e=>eb b o hb e) f0 f1 f3 f4 f5⟩
  ·rw[e] at st;exact wpAny_pyNext_wide_end (I.ok.hd hc) st hx fun h' eb=>⟨rfl,I.turned (t':=s.toks) (fun b o hb e=>eb b o hb e) f0 f1 f3 f4 f5⟩
 self:=fun A i s Q E st h=>by
  rcases Nz with e | e
  ·rw[e] at st;exact wpAny_pyIter_striter_ascii st h
  ·rw[e] at st;exact wpAny_pyIter_striter_wide st h
def Zm (te:TE):TI:=fun σ H R=>te σ H fun v H1=>∃x,v=.str x∧R (Zl x) H1
theorem Th {X:Cx} {tg e:Expr} {te:TE} (he:PE X e te):PI X tg e (Zm te):=by
 intro pins s σ H R I h;refine dA (he pins s σ H _ I h) fun v s1 ⟨y,H1,I1,r1,x,ex,q⟩=>?_;subst ex;obtain⟨t,rfl⟩:=r1;cases ha:x.cps.all (·<128)
 ·exact wpAny_pyIter_wide ha (Ap (tk:=s1.toks) I1 _ (EZ _ x t "str_iterator" (.inr rfl)) ⟨_,Heap.get?_push_size _ rfl,rfl,rfl⟩ q)
 ·exact wpAny_pyIter_ascii ha (Ap (tk:=s1.toks) I1 _ (EZ _ x t "str_ascii_iterator" (.inl rfl)) ⟨_,Heap.get?_push_size _ rfl,rfl,rfl⟩ q)
def Zn (K:aP) (a:Addr):It :=
 ⟨fun i H=>∃(xs:List V) (x:V),bU K H a xs∧xs[i]?=some x,fun i H v H'=>∃T x,v=.ref T∧H T=none∧H'=upd H T (.tup [.int (i:Nat),x])∧∀xs,bU K H a xs→xs[i]?=some x,fun i H=>∃xs:List V,bU K H a xs∧xs.length≤i⟩
theorem KG {P:Program} {w:World} {K:aP} {elts:List Expr} {kk:Nat} {yL:Pos} (a e it:Addr) :
  Turn P w K (.Tuple elts kk yL) (Zn K a) [e,it] e (fun i h=>(∃old,IsEnum h e it ((i:Nat):Int) old)∧h.IsListIter it a i∧e≠it) where
 mem:=by simp
 obj:=fun i h st b hb=>by
  obtain⟨⟨old,he⟩,⟨o,ho,hc,hd⟩,_⟩:=st;have e':b=e∨b=it:=by simpa using hb
  rcases e' with z | z
  ·rw[z];exact⟨_,he,fun v q=>nomatch q⟩
  ·rw[z];exact⟨o,ho,fun v q=>by rw[hd] at q;cases q⟩
 keep:=fun i h h' st k=>let ⟨⟨old,he⟩,hi,iY⟩:=st;⟨⟨old,k e (by simp) _ he⟩,hi.at fun o q=>k it (by simp) o q,iY⟩
 item:=by
  intro X hP hw hK hc i pins s σ H E I hf st hg;subst hP hw hK;obtain⟨⟨old,he⟩,lR,iY⟩:=st;obtain⟨xs,x,hq,hx⟩:=hg;obtain⟨bq,rv,p,hz⟩:=I.list hq;obtain⟨u,hu,ru⟩:=rv.get hx;have Zo:e<s.heap.objs.size:=Heap.lt_size he;have hil:it<s.heap.objs.size:=by obtain⟨_,q,_⟩:=lR;exact Heap.lt_size q
  refine wpAny_pyNext_enum_item he lR p.isList (x:=u) (by simpa using hu) iY fun h' ho Zp hT hsz hk=>?_;refine⟨_,rfl,wpAny_letOwnedTupleGo_enum (s:={ s with heap:=h',toks:=s.toks+1 }) ho fun Ia he' sb=>?_⟩;have WB:Ia.get? s.heap.objs.size=some { cls:=.type "tuple",data:=.seq #[.int i s.toks,u] }:=(sb.2 _ (Nat.ne_of_gt Zo)).trans hT;have new:g5 X.prog X.w (upd H s.heap.objs.size (.tup [.int (i:Nat),x])) Ia s.heap.objs.size (.tup [.int (i:Nat),x]) :=
   ⟨by show 2≤sizeLine;decide,[.int i s.toks,u],.cons ⟨_,rfl⟩ (.cons ru .nil),⟨_,WB,rfl,_,rfl⟩⟩
  have I1:Inv X pins σ (upd H s.heap.objs.size (.tup [.int (i:Nat),x])) { s with heap:=Ia,toks:=s.toks+1 } :=
   I.Bi (ch:=[e,it]) (fun b ob hb q=>(sb.2 b (fun z=>hb (by simp[z]))).trans (hk b ob (fun z=>hb (by simp[z])) (fun z=>hb (by simp[z])) q)) hf (bB _) new
  refine⟨.ref s.heap.objs.size,_,I1,rfl,⟨_,x,rfl,I.du.fresh (bB _),rfl,fun ys hy=>by rw[I.sJ hy hq];exact hx⟩,⟨⟨u,?_⟩,Zp.at fun o q=>(sb.2 it (j9 iY)).trans q,iY⟩,fun b hb=>?_⟩
  ·have e1:((i+1:Nat):Int)=(i:Int)+1:=by omega
   rw[e1];exact he'
  ·have hb':b<s.heap.objs.size:=by
    have e':b=e∨b=it:=by simpa using hb
    rcases e' with z | z
    ·rw[z];exact Zo
    ·rw[z];exact hil
   rw[b7 (dJ hb')];exact(hf b hb).1
 done:=by
  intro X hP hw hK hc i pins s σ H E I hf st hg;subst hP hw hK;obtain⟨⟨old,he⟩,lR,iY⟩:=st;obtain⟨xs,hq,hx⟩:=hg;obtain⟨bq,rv,p,hz⟩:=I.list hq;obtain⟨f0,f1,f2,f3,f4,f5⟩:=hf it (by simp);have hl:=rv.length;exact wpAny_pyNext_enum_end (I.ok.hd hc) he lR p.isList (by simp;omega) fun h' eb=>⟨rfl,I.turned (t':=s.toks) (fun b o hb q=>eb b o hb q) f0 f1 f3 f4 f5⟩
 self:=fun A i s Q E st h=>let ⟨⟨_,he⟩,_⟩:=st;wpAny_pyIter_enum he h
def WC (K:aP) (ta:TA):TI:=fun σ H R=>ta σ H fun vs H1=>∃a xs,vs=[.ref a]∧bU K H1 a xs∧R (Zn K a) H1
theorem Bj {X:Cx} {e:Expr} {ta:TA} {p pos yL:Pos} {elts:List Expr} {kk:Nat} (hg:Gl X "enumerate") (hm:X.mg "enumerate"=none) (ha:PA X [e] ta) (hs:autoParam (starEach [e] X.env=[(false,eval e X.env)]) cW) :
  PI X (.Tuple elts kk yL) (.Call (.Name "enumerate" p) [e] [] pos) (WC X.K ta):=by
 intro pins s σ H R I h;refine Call_ (sI I hg hm boot_enumerate (tU (dA (ha pos pins s σ H _ I h) fun us s1 ⟨vs,H1,I1,r1,q1⟩=>?_) hs rfl));obtain⟨a,xs,ex,hq,q⟩:=q1;subst ex;cases r1 with
 | cons r rr =>
  cases rr;cases r;obtain⟨bq,rv,p',hz⟩:=I1.list hq;refine call_enumerate_list p'.isList fun h' he lR hsz hk=>wpAny_pyIter_enum he ?_;have I2:Inv X pins σ H1 { s1 with heap:=h' }:=I1.kept (t':=s1.toks) hk;refine⟨s1.heap.objs.size+1,[s1.heap.objs.size+1,s1.heap.objs.size],_,_,H1,rfl,I2,KG a (s1.heap.objs.size+1) s1.heap.objs.size,⟨⟨.none,he⟩,lR,Nat.succ_ne_self _⟩,fun b hb=>?_,q⟩;have e':b=s1.heap.objs.size+1∨b=s1.heap.objs.size:=by simpa using hb
  have hle:s1.heap.objs.size≤b:=by
   rcases e' with z | z
   ·rw[z];exact uI _ _
   ·rw[z];exact bB _
  exact I1.EM hle (I1.du.fresh hle)
theorem KH:bootBuiltins "zip"=some (.type "zip"):=by decide +kernel
def Zq (K:aP) (a b:Addr):It :=
 ⟨fun i H=>∃(xs ys:List V) (x y:V),bU K H a xs∧bU K H b ys∧xs[i]?=some x∧ys[i]?=some y,
  fun i H v H'=>∃T x y,v=.ref T∧H T=none∧H'=upd H T (.tup [x,y])∧(∀xs,bU K H a xs→xs[i]?=some x)∧∀ys,bU K H b ys→ys[i]?=some y,
  fun i H=>∃xs ys:List V,bU K H a xs∧bU K H b ys∧(xs.length≤i∨ys.length≤i)⟩
theorem ND {P:Program} {w:World} {K:aP} {elts:List Expr} {kk:Nat} {yL:Pos} {a b z TI TO i1 i2:Addr} (D:ZipApart z TI TO i1 i2 a b) :
  Turn P w K (.Tuple elts kk yL) (Zq K a b) [z,TI,TO,i1,i2] z (fun i h=>IsZip h z TI TO .none∧IsPair h TI (.ref i1) (.ref i2)∧(∃x y,IsPair h TO x y)∧h.IsListIter i1 a i∧h.IsListIter i2 b i) where
 mem:=by simp
 obj:=fun i h st c hc=>by
  obtain⟨hz,Bk,⟨x,y,DT⟩,⟨o1,e1,_,d1⟩,⟨o2,e2,_,d2⟩⟩:=st;have e':c=z∨c=TI∨c=TO∨c=i1∨c=i2:=by simpa using hc
  rcases e' with q | q | q | q | q
  ·rw[q];exact⟨_,hz,fun v q=>nomatch q⟩
  ·rw[q];exact⟨_,Bk,fun v q=>nomatch q⟩
  ·rw[q];exact⟨_,DT,fun v q=>nomatch q⟩
  ·rw[q];exact⟨o1,e1,fun v q=>by rw[d1] at q;cases q⟩
  ·rw[q];exact⟨o2,e2,fun v q=>by rw[d2] at q;cases q⟩
 keep:=fun i h h' st k=>by
  obtain⟨hz,Bk,⟨x,y,DT⟩,h1,h2⟩:=st;exact⟨k z (by simp) _ hz,k TI (by simp) _ Bk,⟨x,y,k TO (by simp) _ DT⟩,h1.at fun o q=>k i1 (by simp) o q,h2.at fun o q=>k i2 (by simp) o q⟩
 item:=by
  intro X hP hw hK hc i pins s σ H E I hf st hg;subst hP hw hK;obtain⟨hz,Bk,⟨x0,y0,DT⟩,h1,h2⟩:=st;obtain⟨xs,ys,x,y,NF,NG,hx,hy⟩:=hg;obtain⟨bq,rv,p,_⟩:=I.list NF;obtain⟨rz,Tj,p2,_⟩:=I.list NG;obtain⟨u,hu,ru⟩:=rv.get hx;obtain⟨u2,hu2,ru2⟩:=Tj.get hy;have Zr:z<s.heap.objs.size:=Heap.lt_size hz;refine wpAny_pyNext_zip_item D hz Bk DT h1 h2 p.isList p2.isList (x:=u) (y:=u2) (by simpa using hu) (by simpa using hu2) fun h' z' TO' uR tV hT hsz hk=>?_;refine⟨_,rfl,wpAny_letOwnedTupleGo_zip (s:={ s with heap:=h' }) z' fun Ia z'' sb=>?_⟩;have WB:Ia.get? s.heap.objs.size=some { cls:=.type "tuple",data:=.seq #[u,u2] }:=(sb.2 _ (Nat.ne_of_gt Zr)).trans hT;have new:g5 X.prog X.w (upd H s.heap.objs.size (.tup [x,y])) Ia s.heap.objs.size (.tup [x,y]) :=
   ⟨by show 2≤sizeLine;decide,[u,u2],.cons ru (.cons ru2 .nil),⟨_,WB,rfl,_,rfl⟩⟩
  have I1:Inv X pins σ (upd H s.heap.objs.size (.tup [x,y])) { s with heap:=Ia } :=
   I.Bi (t':=s.toks) (ch:=[z,TI,TO,i1,i2]) (fun c o hb q=>(sb.2 c (fun q'=>hb (by simp[q']))).trans (hk c o (fun q'=>hb (by simp[q'])) (fun q'=>hb (by simp[q'])) (fun q'=>hb (by simp[q'])) (fun q'=>hb (by simp[q'])) q)) hf (bB _) new
  refine⟨.ref s.heap.objs.size,_,I1,rfl,⟨_,x,y,rfl,I.du.fresh (bB _),rfl,fun l hl=>by rw[I.sJ hl NF];exact hx,fun l hl=>by rw[I.sJ hl NG];exact hy⟩,⟨z'',?_,⟨u,u2,?_⟩,?_,?_⟩,fun c Tl=>?_⟩
  ·exact(sb.2 _ D.TIz).trans (hk _ _ D.TIz D.TITO D.TIi1 D.TIi2 Bk)
  ·exact(sb.2 _ D.TOz).trans TO'
  ·exact uR.at fun o q=>(sb.2 _ D.i1z).trans q
  ·exact tV.at fun o q=>(sb.2 _ D.i2z).trans q
  ·have oU:c<s.heap.objs.size:=by
    have e':c=z∨c=TI∨c=TO∨c=i1∨c=i2:=by simpa using Tl
    rcases e' with q | q | q | q | q
    ·rw[q];exact Zr
    ·rw[q];exact Heap.lt_size Bk
    ·rw[q];exact Heap.lt_size DT
    ·rw[q];obtain⟨_,e1,_⟩:=h1;exact Heap.lt_size e1
    ·rw[q];obtain⟨_,e2,_⟩:=h2;exact Heap.lt_size e2
   rw[b7 (dJ oU)];exact(hf c Tl).1
 done:=by
  intro X hP hw hK hc i pins s σ H E I hf st hg;subst hP hw hK;obtain⟨hz,Bk,⟨x0,y0,DT⟩,h1,h2⟩:=st;obtain⟨xs,ys,NF,NG,Zs⟩:=hg;obtain⟨bq,rv,p,_⟩:=I.list NF;obtain⟨rz,Tj,p2,_⟩:=I.list NG;have l1:=rv.length;have l2:=Tj.length;have he:bq.toArray[i]?=none∨rz.toArray[i]?=none:=by
   rcases Zs with q | q
   ·exact .inl (by simp;omega)
   ·exact .inr (by simp;omega)
  exact wpAny_pyNext_zip_end (I.ok.hd hc) D hz Bk DT h1 h2 p.isList p2.isList he fun h' hk=>⟨rfl,I.P6 (t':=s.toks) (ch:=[z,TI,TO,i1,i2]) (fun c o hb q =>
   hk c o (fun q'=>hb (by simp[q'])) (fun q'=>hb (by simp[q'])) (fun q'=>hb (by simp[q'])) (fun q'=>hb (by simp[q'])) q) hf⟩
 self:=fun A i s Q E st h=>wpAny_pyIter_zip st.1 h
def Zt (K:aP) (ta:TA):TI:=fun σ H R=>ta σ H fun vs H1=>∃a b xs ys,vs=[.ref a,.ref b]∧bU K H1 a xs∧bU K H1 b ys∧R (Zq K a b) H1
theorem Mu {X:Cx} {e e2:Expr} {ta:TA} {p pos yL:Pos} {elts:List Expr} {kk:Nat} (hg:Gl X "zip") (hm:X.mg "zip"=none) (ha:PA X [e,e2] ta)
  (hs:autoParam (starEach [e,e2] X.env=(false,eval e X.env)::starEach [e2] X.env) cW) (gH:autoParam ((backTo pos (starEach [e2] X.env)).any (·.1)=false) cW) :
  PI X (.Tuple elts kk yL) (.Call (.Name "zip" p) [e,e2] [] pos) (Zt X.K ta):=by
 intro pins s σ H R I h;refine Call_ (sI I hg hm KH (tU (dA (ha pos pins s σ H _ I h) fun us s1 ⟨vs,H1,I1,r1,q1⟩=>?_) hs gH));obtain⟨a,b,xs,ys,ex,NF,NG,q⟩:=q1;subst ex;cases r1 with
 | cons r rr =>
  cases rr with
  | cons r' rr =>
   cases rr;cases r;cases r';obtain⟨bq,rv,p1,_⟩:=I1.list NF;obtain⟨rz,Tj,p2,_⟩:=I1.list NG;have la:a<s1.heap.objs.size:=p1.lt;have lb:b<s1.heap.objs.size:=p2.lt;refine call_zip_2 p1.isList p2.isList fun h' hz Bk DT h1 h2 hsz hk=>wpAny_pyIter_zip hz ?_;have I2:Inv X pins σ H1 { s1 with heap:=h' }:=I1.kept (t':=s1.toks) hk;refine⟨s1.heap.objs.size+4,[s1.heap.objs.size+4,s1.heap.objs.size+2,s1.heap.objs.size+3,s1.heap.objs.size,s1.heap.objs.size+1],_,_,H1,rfl,I2,ND (PySem.W.ktu_apart s1.heap.objs.size a b la lb),⟨hz,Bk,⟨_,_,DT⟩,h1,h2⟩,fun c Tl=>?_,q⟩;have e':c=s1.heap.objs.size+4∨c=s1.heap.objs.size+2∨c=s1.heap.objs.size+3∨c=s1.heap.objs.size∨c=s1.heap.objs.size+1:=by simpa using Tl
   have hle:s1.heap.objs.size≤c:=by
    rcases e' with z | z | z | z | z
    ·rw[z];exact uI _ _
    ·rw[z];exact uI _ _
    ·rw[z];exact uI _ _
    ·rw[z];exact bB _
    ·rw[z];exact uI _ _
   exact I1.EM hle (I1.du.fresh hle)
end L2
section
namespace P7
open PySem PyProof.Rows
theorem vU {x:Int} (k:Nat) (hx:0≤x):Builtin.bitAnd x (2^k-1)=x%2^k:=by
 obtain⟨n,rfl⟩:=aA hx;have hp:0<2^k:=cV k;rw[two_pow_cast];have e:((2^k:Nat):Int)-1=((2^k-1:Nat):Int):=by
  generalize (2:Nat)^k=m at hp;omega
 rw[e,bitAnd_pp Kk Kk,aN,aN,Nat.and_two_pow_sub_one_eq_mod]
 first
  | rfl
  | exact Int.natCast_emod _ _
  | simp
end P7
end
namespace L2
open PySem PySem.Spec PyProof.Rows
open PySem.W (WData Codec OpenSpec Well WellAll ReadsW ReadsAllW)
mutual
inductive Dw (K:aP) (H:Hp):V→WData→Prop
 | fV:Dw K H .fV .none
 | bl (b:Bool):Dw K H (.bl b) (.bool b)
 | int (i:Int):Dw K H (.int i) (.int i)
 | str (x:Str):Dw K H (.str x) (.str x)
 | tQ (b:Array UInt8):Dw K H (.tQ b) (.bytes b.toList)
 | lst {a:Addr} {xs:List V} {ds:List WData}:bU K H a xs→kL K H xs ds→Dw K H (.ref a) (.list ds)
 | tup {a:Addr} {xs:List V} {ds:List WData}:j5 K H a xs→kL K H xs ds→Dw K H (.ref a) (.tuple ds)
inductive kL (K:aP) (H:Hp):List V→List WData→Prop
 | nil:kL K H [] []
 | cons {v:V} {vs:List V} {d:WData} {ds:List WData}:Dw K H v d→kL K H vs ds→kL K H (v::vs) (d::ds)
end
theorem Ic {K:aP} {H:Hp}:∀ns:List Int,kL K H (ns.map V.int) (ns.map WData.int)
 | []=>.nil
 | n::r=>.cons (.int n) (Ic r)
theorem Ie {K:aP} {H:Hp}:∀(ns:List Int) (xs:List V),kL K H xs (ns.map WData.int)→xs=ns.map V.int
 | [],xs,h=>by
  cases h;rfl
 | n::r,xs,h=>by
  cases h with
  | cons h1 h2 =>
   cases h1;rw[Ie r _ h2]<;>rfl
section
variable {P:Program} {w:World} {K:aP} {H:Hp} {h:Heap} {R:PySem.W.WRecords} {cl:Str→Option Addr}
theorem Tn {a:Addr} {xs:List V} (du:jv P w H h) (KX:K.In h) (q:bU K H a xs):∃(bq:List Value) (o:Obj) (n:Nat),Vals xs bq∧h.get? a=some o∧o.cls=.type "list"∧o.data=.seq bq.toArray n:=by
 rcases q with q | ⟨o,bq,n,e,hc,_,hd,_,hv⟩
 ·obtain⟨_,bq,n,hv,e⟩:=(show g5 P w H h a (.lst xs) from q.ok du);exact⟨bq,_,n,hv,e,rfl,rfl⟩
 ·exact⟨bq.toList,o,n,hv,KX _ _ e,hc,by simp[hd]⟩
theorem To {a:Addr} {xs:List V} (du:jv P w H h) (KX:K.In h) (q:j5 K H a xs):∃(bq:List Value) (o:Obj) (n:Nat),Vals xs bq∧h.get? a=some o∧o.cls=.type "tuple"∧o.data=.seq bq.toArray n:=by
 rcases q with q | ⟨o,bq,n,e,hc,hd,_,hv⟩
 ·obtain⟨_,bq,hv,o,e,hc,n,hd⟩:=(show g5 P w H h a (.tup xs) from q.ok du);exact⟨bq,o,n,hv,e,hc,hd⟩
 ·exact⟨bq.toList,o,n,hv,KX _ _ e,hc,by simp[hd]⟩
mutual
theorem Dw.reads (du:jv P w H h) (KX:K.In h):∀(d:WData) (v:V) (u:Value),Dw K H v d→RelV v u→∃as,ReadsW R cl h u d as
 | .none,_,_,x,r=>by
  cases x;cases r;exact⟨_,ReadsW.none⟩
 | .bool b,_,_,x,r=>by
  cases x;cases r;exact⟨_,ReadsW.bool b⟩
 | .int i,_,_,x,r=>by
  cases x;obtain⟨t,rfl⟩:=r;exact⟨_,ReadsW.int i t⟩
 | .str s,_,_,x,r=>by
  cases x;obtain⟨t,rfl⟩:=r;exact⟨_,ReadsW.str s t⟩
 | .bytes b,_,_,x,r=>by
  cases x;obtain⟨t,rfl⟩:=r;exact⟨_,ReadsW.bytes _ t⟩
 | .list ds,_,_,x,r=>by
  cases x with
  | lst hs ha =>
   cases r;obtain⟨bq,o,n,rv,ho,hc,hd⟩:=Tn du KX hs;obtain⟨as,hr⟩:=Dw.readsAll du KX ds _ bq ha rv;exact⟨_,ReadsW.list ho hc hd hr⟩
 | .tuple ds,_,_,x,r=>by
  cases x with
  | tup hs ha =>
   cases r;obtain⟨bq,o,n,rv,ho,hc,hd⟩:=To du KX hs;obtain⟨as,hr⟩:=Dw.readsAll du KX ds _ bq ha rv;exact⟨_,ReadsW.tuple ho hc hd hr⟩
 | .float _,_,_,x,_=>by cases x
 | .dict _,_,_,x,_=>by cases x
 | .bytearray _,_,_,x,_=>by cases x
 | .set _,_,_,x,_=>by cases x
 | .frozenset _,_,_,x,_=>by cases x
 | .obj _ _,_,_,x,_=>by cases x
theorem Dw.readsAll (du:jv P w H h) (KX:K.In h):∀(ds:List WData) (vs:List V) (us:List Value),kL K H vs ds→Vals vs us→∃as,ReadsAllW R cl h us ds as
 | [],_,_,x,r=>by
  cases x;cases r;exact⟨_,ReadsAllW.nil⟩
 | d::ds,_,_,x,r=>by
  cases x with
  | cons h1 h2 =>
   cases r with
   | cons r1 r2 =>
    obtain⟨as,q1⟩:=Dw.reads du KX d _ _ h1 r1;obtain⟨bs,q2⟩:=Dw.readsAll du KX ds _ _ h2 r2;exact⟨_,ReadsAllW.cons q1 q2⟩
end
end
mutual
def vV:WData→Bool
 | .none=>true
 | .bool _=>true
 | .int _=>true
 | .str _=>true
 | .bytes _=>true
 | .list xs=>qG xs
 | .tuple xs=>qG xs
 | _=>false
def qG:List WData→Bool
 | []=>true
 | x::r=>vV x&&qG r
end
theorem E3 {α:Type} {f:α→WData} (h:∀a,vV (f a)=true):∀l:List α,qG (l.map f)=true
 | []=>rfl
 | x::r=>by
  show (vV (f x)&&qG (r.map f))=true;rw[h x,E3 h r]<;>rfl
theorem nP:∀(c:Codec) (a:c.denote),vV (c.enc a)=true
 | .unit,_=>rfl
 | .bool,_=>rfl
 | .int _ _,_=>rfl
 | .nat _ _,_=>rfl
 | .u8,_=>rfl
 | .bytes _ _,_=>rfl
 | .text _ _ _ _,_=>rfl
 | .list _ _ c,a=>E3 (fun x=>nP c x) a
 | .pair c d,a=>by
  show (vV (c.enc a.1)&&(vV (d.enc a.2)&&true))=true;rw[nP c a.1,nP d a.2]<;>rfl
 | .triple c d e,a=>by
  show (vV (c.enc a.1)&&(vV (d.enc a.2.1)&&(vV (e.enc a.2.2)&&true)))=true;rw[nP c a.1,nP d a.2.1,nP e a.2.2]<;>rfl
 | .option c,none=>rfl
 | .option c,some x=>nP c x
theorem Bl:∀(cs:List Codec) (a:Codec.denoteAll cs),qG (Codec.encAll cs a)=true
 | [],_=>rfl
 | c::cs,a=>by
  show (vV (c.enc a.1)&&qG (Codec.encAll cs a.2))=true;rw[nP c a.1,Bl cs a.2]<;>rfl
theorem rD:∀{xs:List WData} {d:WData},d∈xs→d.weight≤WData.weightAll xs
 | [],d,h=>absurd h (by simp)
 | x::r,d,h=>by
  show d.weight≤x.weight+1+WData.weightAll r;rcases cO.mp h with e | m
  ·rw[e];omega
  ·have z:=rD m;omega
def toV:Value→V
 | .none=>.fV
 | .bool b=>.bl b
 | .int i _=>.int i
 | .str x _=>.str x
 | .bytes b _=>.tQ b
 | .ref a=>.ref a
 | _=>.fV
def xP (A:List Addr):Value→Prop
 | .none=>True
 | .bool _=>True
 | .int _ _=>True
 | .str _ _=>True
 | .bytes _ _=>True
 | .ref a=>a∈A
 | _=>False
theorem xP.mono {A B:List Addr} (h:∀a∈A,a∈B):∀{u:Value},xP A u→xP B u:=fun {u} x=>by
 cases u with
 | ref a=>exact h a x
 | none=>trivial
 | bool b=>trivial
 | int i t=>trivial
 | str s t=>trivial
 | bytes b t=>trivial
 | _=>exact False.elim x
theorem NH {A:List Addr} {u:Value} (x:xP A u):RelV (toV u) u:=by
 cases u with
 | ref a=>rfl
 | none=>rfl
 | bool b=>rfl
 | int i t=>exact⟨t,rfl⟩
 | str s t=>exact⟨t,rfl⟩
 | bytes b t=>exact⟨t,rfl⟩
 | _=>exact False.elim x
theorem mi {A:List Addr}:∀{vs:List Value},(∀u∈vs,xP A u)→Vals (vs.map toV) vs
 | [],_=>.nil
 | u::r,h=>.cons (NH (h u (fD ..))) (mi fun x hx=>h x (dw _ hx))
def lE (h:Heap) (A:List Addr) (a:Addr):Prop:=∃vs:List Value,vs.length≤sizeLine∧(∀u∈vs,xP A u) ∧
 (h.get? a=some { cls:=.type "list",data:=.seq vs.toArray }∨h.get? a=some { cls:=.type "tuple",data:=.seq vs.toArray })
theorem lE.mono {h:Heap} {A B:List Addr} {a:Addr} (k:∀a∈A,a∈B) (x:lE h A a):lE h B a:=by
 obtain⟨vs,h1,h2,h3⟩:=x;exact⟨vs,h1,fun u hu=>(h2 u hu).mono k,h3⟩
theorem lS {P:Params} {h:Heap}:∀{vs:List Value} {ds:List WData},WellAll P h vs ds→vs.length=ds.length
 | _,_,.nil=>rfl
 | _,_,.cons _ b=>by
  show _+1=_+1;rw[lS b]
theorem Bm {P:Params} {h:Heap} {v:Value} {ds:List WData} (x:Well P h v (.list ds)):∃(a:Addr) (vs:List Value),v=.ref a∧h.get? a=some { cls:=.type "list",data:=.seq vs.toArray }∧WellAll P h vs ds:=by
 cases x with
 | list ho jR=>exact⟨_,_,rfl,ho,jR⟩
theorem yN {P:Params} {h:Heap} {v:Value} {ds:List WData} (x:Well P h v (.tuple ds)):∃(a:Addr) (vs:List Value),v=.ref a∧h.get? a=some { cls:=.type "tuple",data:=.seq vs.toArray }∧WellAll P h vs ds:=by
 cases x with
 | tuple ho jR=>exact⟨_,_,rfl,ho,jR⟩
theorem Bn {P:Params} {h:Heap} {us:List Value} {d:WData} {ds:List WData} (x:WellAll P h us (d::ds)):∃(v:Value) (vs:List Value),us=v::vs∧Well P h v d∧WellAll P h vs ds:=by
 cases x with
 | cons a b=>exact⟨_,_,rfl,a,b⟩
theorem Ig {n:Nat} (h:n≤1048576):n≤sizeLine:=bZ h Ke
section
variable {P:Params} {h:Heap}
mutual
theorem NI:∀(d:WData) (v:Value),Well P h v d→vV d=true→d.weight≤1048576→∃A:List Addr,xP A v∧∀a∈A,lE h A a
 | .none,_,x,_,_=>by
  cases x;exact⟨[],trivial,fun a m=>absurd m (by simp)⟩
 | .bool b,_,x,_,_=>by
  cases x;exact⟨[],trivial,fun a m=>absurd m (by simp)⟩
 | .int i,_,x,_,_=>by
  cases x;exact⟨[],trivial,fun a m=>absurd m (by simp)⟩
 | .str s,_,x,_,_=>by
  cases x;exact⟨[],trivial,fun a m=>absurd m (by simp)⟩
 | .bytes b,_,x,_,_=>by
  cases x;exact⟨[],trivial,fun a m=>absurd m (by simp)⟩
 | .list ds,_,x,p,z=>by
  obtain⟨a,vs,rfl,ho,jR⟩:=Bm x;have z2:WData.weightAll ds≤1048576:=z;obtain⟨A,h1,h2⟩:=sW ds _ jR p fun d hd=>bZ (rD hd) z2;have k:∀b∈A,b∈a::A:=fun b hb=>dw _ hb;refine⟨a::A,fD ..,fun b hb=>?_⟩;rcases cO.mp hb with e | m
  ·rw[e];exact⟨vs,Ig (by rw[lS jR];exact bZ (PySem.W.length_le_weightAllW ds) z2),fun u hu=>(h1 u hu).mono k,.inl ho⟩
  ·exact(h2 b m).mono k
 | .tuple ds,_,x,p,z=>by
  obtain⟨a,vs,rfl,ho,jR⟩:=yN x;have z2:WData.weightAll ds≤1048576:=z;obtain⟨A,h1,h2⟩:=sW ds _ jR p fun d hd=>bZ (rD hd) z2;have k:∀b∈A,b∈a::A:=fun b hb=>dw _ hb;refine⟨a::A,fD ..,fun b hb=>?_⟩;rcases cO.mp hb with e | m
  ·rw[e];exact⟨vs,Ig (by rw[lS jR];exact bZ (PySem.W.length_le_weightAllW ds) z2),fun u hu=>(h1 u hu).mono k,.inr ho⟩
  ·exact(h2 b m).mono k
 | .float _,_,_,p,_=>Bool.noConfusion (show false=true from p)
 | .dict _,_,_,p,_=>Bool.noConfusion (show false=true from p)
 | .bytearray _,_,_,p,_=>Bool.noConfusion (show false=true from p)
 | .set _,_,_,p,_=>Bool.noConfusion (show false=true from p)
 | .frozenset _,_,_,p,_=>Bool.noConfusion (show false=true from p)
 | .obj _ _,_,_,p,_=>Bool.noConfusion (show false=true from p)
theorem sW:∀(ds:List WData) (vs:List Value),WellAll P h vs ds→qG ds=true→(∀d∈ds,d.weight≤1048576)→∃A:List Addr,(∀u∈vs,xP A u)∧∀a∈A,lE h A a
 | [],_,x,_,_=>by
  cases x;exact⟨[],fun u m=>absurd m (by simp),fun a m=>absurd m (by simp)⟩
 | d::ds,_,x,p,z=>by
  obtain⟨v,vs,rfl,x1,x2⟩:=Bn x;have q:vV d=true∧qG ds=true:=jw.mp p;obtain⟨A,a1,a2⟩:=NI d v x1 q.1 (z d (fD ..));obtain⟨B,b1,b2⟩:=sW ds vs x2 q.2 fun e he=>z e (dw _ he);have kA:∀b∈A,b∈A++B:=fun b hb=>pL.mpr (.inl hb);have kB:∀b∈B,b∈A++B:=fun b hb=>pL.mpr (.inr hb);refine⟨A++B,fun u hu=>?_,fun b hb=>?_⟩
  ·rcases cO.mp hu with e | m
   ·rw[e];exact a1.mono kA
   ·exact(b1 u m).mono kB
  ·rcases pL.mp hb with m | m
   ·exact(a2 b m).mono kA
   ·exact(b2 b m).mono kB
end
end
def Mv (o:Obj):Option HO:=match o.data with
 | .seq vs _=>if (o.cls==Value.type "list")=true then some (.oK o (.lst (vs.toList.map toV))) else some (.oK o (.tup (vs.toList.map toV)))
 | _=>none
def ki (K:aP) (h:Heap) (A:List Addr):Hp:=fun b=>if b∈A then (if (K.lookup b).isNone=true then (h.get? b).bind Mv else none) else none
def xQ (H:Hp):Prop:=∀b,H b=none∨∃o u,H b=some (.oK o u)
theorem E4 (vs:List Value):Mv { cls:=.type "list",data:=.seq vs.toArray }=some (.oK { cls:=.type "list",data:=.seq vs.toArray } (.lst (vs.map toV))):=by
 show (if (Value.type "list"==Value.type "list")=true then some (HO.oK { cls:=.type "list",data:=.seq vs.toArray } (.lst (vs.toArray.toList.map toV))) else some (HO.oK { cls:=.type "list",data:=.seq vs.toArray } (.tup (vs.toArray.toList.map toV))))=_;rw[ao (beq_self_eq_true _)]
theorem E5 (vs:List Value):Mv { cls:=.type "tuple",data:=.seq vs.toArray }=some (.oK { cls:=.type "tuple",data:=.seq vs.toArray } (.tup (vs.map toV))):=by
 show (if (Value.type "tuple"==Value.type "list")=true then some (HO.oK { cls:=.type "tuple",data:=.seq vs.toArray } (.lst (vs.toArray.toList.map toV))) else some (HO.oK { cls:=.type "tuple",data:=.seq vs.toArray } (.tup (vs.toArray.toList.map toV))))=_;rw[ag Ke]
section
variable {P:Program} {w:World} {K:aP} {h:Heap} {A:List Addr}
theorem vW {b:Addr} {o:Obj} (hb:b∈A) (hk:K.lookup b=none) (e:h.get? b=some o):ki K h A b=Mv o:=by
 unfold ki;rw[ao hb,hk,ao (show (none:Option Obj).isNone=true from rfl),e]<;>rfl
theorem P8 {b:Addr} {u:HO} (q:ki K h A b=some u):b∈A∧K.lookup b=none:=by
 unfold ki at q;by_cases hb:b∈A
 ·rw[ao hb] at q;cases hk:K.lookup b with
  | none=>exact⟨hb,rfl⟩
  | some o =>
   rw[hk,ag (by simp)] at q;cases q
 ·rw[ag hb] at q;cases q
theorem vX (ar : ∀ a ∈ A, lE h A a) {b : Addr} {u : HO} (q : ki K h A b = some u) : K.lookup b = none ∧ ∃ vs : List Value, vs.length ≤ sizeLine ∧ (∀ u ∈ vs, xP A u) ∧
    ((h.get? b = some { cls := .type "list", data := .seq vs.toArray } ∧ u = .oK { cls := .type "list", data := .seq vs.toArray } (.lst (vs.map toV))) ∨
     (h.get? b = some { cls := .type "tuple", data := .seq vs.toArray } ∧ u = .oK { cls := .type "tuple", data := .seq vs.toArray } (.tup (vs.map toV)))) := by
  obtain ⟨hb, hk⟩ := P8 q
  obtain ⟨vs, h1, h2, h3⟩ := ar b hb
  refine ⟨hk, vs, h1, h2, ?_⟩
  rcases h3 with e | e
  · rw [vW hb hk e, E4] at q
    exact .inl ⟨e, (bM q).symm⟩
  · rw [vW hb hk e, E5] at q
    exact .inr ⟨e, (bM q).symm⟩
theorem KI (ar:∀a∈A,lE h A a):xQ (ki K h A):=fun b=>by
 cases q:ki K h A b with
 | none=>exact .inl rfl
 | some u =>
  obtain⟨_,vs,_,_,⟨_,e⟩ | ⟨_,e⟩⟩:=vX ar q
  ·exact .inr ⟨_,_,by rw[e]⟩
  ·exact .inr ⟨_,_,by rw[e]⟩
theorem P9 (ar:∀a∈A,lE h A a):jv P w (ki K h A) h:=fun b u q=>by
 obtain⟨_,vs,h1,h2,⟨e,rfl⟩ | ⟨e,rfl⟩⟩:=vX ar q
 ·exact⟨e,by rw[aF];exact h1,vs,_,mi h2,e⟩
 ·exact⟨e,by rw[aF];exact h1,vs,mi h2,_,e,rfl,_,rfl⟩
theorem vY {c c':Value} {vs us:List Value} (e:(some { cls:=c,data:=.seq vs.toArray }:Option Obj)=some { cls:=c',data:=.seq us.toArray }):c=c'∧vs=us:=by
 have e1:=bM e;have e2:c=c':=a7 Obj.cls e1;have e3:Data.seq vs.toArray=Data.seq us.toArray:=a7 Obj.data e1;injection e3 with e4
 refine⟨e2,?_⟩;have e5:=a7 Array.toList e4;simpa using e5
theorem Zw (KX:K.In h) (ar:∀a∈A,lE h A a) {a:Addr} {vs:List Value} (ha:a∈A) (e:h.get? a=some { cls:=.type "list",data:=.seq vs.toArray }):(∀u∈vs,xP A u)∧bU K (ki K h A) a (vs.map toV):=by
 obtain⟨us,h1,h2,h3⟩:=ar a ha;have hu:us=vs:=by
  rcases h3 with q | q
  ·rw[e] at q;exact(vY q).2.symm
  ·rw[e] at q;exact absurd (Value.type.inj (vY q).1) Ke
 subst hu;refine⟨h2,?_⟩;cases hk:K.lookup a with
 | none=>exact .inl (.inr ⟨_,by rw[vW ha hk e,E4]⟩)
 | some o =>
  have e2:=KX a o hk;rw[e] at e2;obtain rfl:=bM e2;exact .inr ⟨_,us.toArray,_,hk,rfl,rfl,rfl,by rw[cz];exact h1,by simpa using mi h2⟩
theorem Zx (KX:K.In h) (ar:∀a∈A,lE h A a) {a:Addr} {vs:List Value} (ha:a∈A) (e:h.get? a=some { cls:=.type "tuple",data:=.seq vs.toArray }):(∀u∈vs,xP A u)∧j5 K (ki K h A) a (vs.map toV):=by
 obtain⟨us,h1,h2,h3⟩:=ar a ha;have hu:us=vs:=by
  rcases h3 with q | q
  ·rw[e] at q;exact absurd (Value.type.inj (vY q).1) Ke
  ·rw[e] at q;exact(vY q).2.symm
 subst hu;refine⟨h2,?_⟩;cases hk:K.lookup a with
 | none=>exact .inl (.inr ⟨_,by rw[vW ha hk e,E5]⟩)
 | some o =>
  have e2:=KX a o hk;rw[e] at e2;obtain rfl:=bM e2;exact .inr ⟨_,us.toArray,_,hk,rfl,rfl,by rw[cz];exact h1,by simpa using mi h2⟩
mutual
theorem Tp {Pm:Params} (KX:K.In h) (ar:∀a∈A,lE h A a):∀(d:WData) (v:Value),Well Pm h v d→vV d=true→xP A v→Dw K (ki K h A) (toV v) d
 | .none,_,x,_,_=>by
  cases x;exact .fV
 | .bool b,_,x,_,_=>by
  cases x;exact .bl b
 | .int i,_,x,_,_=>by
  cases x;exact .int i
 | .str s,_,x,_,_=>by
  cases x;exact .str s
 | .bytes b,_,x,_,_=>by
  cases x;have z:=Dw.tQ (K:=K) (H:=ki K h A) b.toArray;exact z
 | .list ds,_,x,p,hu=>by
  obtain⟨a,vs,rfl,ho,jR⟩:=Bm x;obtain⟨h2,hs⟩:=Zw KX ar hu ho;exact .lst hs (Aq KX ar ds _ jR p h2)
 | .tuple ds,_,x,p,hu=>by
  obtain⟨a,vs,rfl,ho,jR⟩:=yN x;obtain⟨h2,hs⟩:=Zx KX ar hu ho;exact .tup hs (Aq KX ar ds _ jR p h2)
 | .float _,_,_,p,_=>Bool.noConfusion (show false=true from p)
 | .dict _,_,_,p,_=>Bool.noConfusion (show false=true from p)
 | .bytearray _,_,_,p,_=>Bool.noConfusion (show false=true from p)
 | .set _,_,_,p,_=>Bool.noConfusion (show false=true from p)
 | .frozenset _,_,_,p,_=>Bool.noConfusion (show false=true from p)
 | .obj _ _,_,_,p,_=>Bool.noConfusion (show false=true from p)
theorem Aq {Pm:Params} (KX:K.In h) (ar:∀a∈A,lE h A a):∀(ds:List WData) (vs:List Value),WellAll Pm h vs ds→qG ds=true→(∀u∈vs,xP A u)→kL K (ki K h A) (vs.map toV) ds
 | [],_,x,_,_=>by
  cases x;exact .nil
 | d::ds,_,x,p,hu=>by
  obtain⟨v,vs,rfl,x1,x2⟩:=Bn x;have q:vV d=true∧qG ds=true:=jw.mp p;exact .cons (Tp KX ar d v x1 q.1 (hu _ (fD ..))) (Aq KX ar ds vs x2 q.2 fun u m=>hu u (dw _ m))
end
end
theorem KJ {P:Program} {w:World} {K:aP} {mg mb:Str→Option Value} {CX:vP} {k:Nat} {fa:Addr} {fd:FuncData} {ps:List Str} {sp:Sp} {s₁:Shared} {vals:List Value} {ds:List WData} {R:PySem.W.WRecords} {cl:Str→Option Addr} {d0:WData}
  (KX:K.In s₁.heap) (Zy:s₁.heap.Ns mainGlobals mg) (hb:s₁.heap.Ns builtinsNs mb) (hbb:∀x:Str,x≠"__name__"→mb x=bootBuiltins x) (Zz:s₁.heap.NoLimit) (hg:s₁.gens=#[])
  (Qa:WellAll w.params s₁.heap vals ds) (gH:qG ds=true) (hwt:∀d∈ds,d.weight≤1048576) (hr:fk k callerA)
  (F:∀base:Heap,K.In base→base.Ns mainGlobals mg→jA P w K mg base CX k fa fd ps sp) (WD:∀(s:Shared) (us:List Value),us.length=ps.length→BindsTo s fd ⟨us,[]⟩ (ps.zip us)) (hlen:ds.length=ps.length)
  (zy:∀(H:Hp) (xs:List V),xQ H→kL K H xs ds→sp xs H (fun v H'=>Dw K H' v d0) fun _ _ _=>False)
  (Qb:∀H e s',CX [] H s₁ (fun _ _ _=>False) e s'→False) :
  codeAny (model P w) callerA (.call (.ref fa) ⟨vals,[]⟩) (fun r s'=>∃u as,r=.ok (.ret u)∧ReadsW R cl s'.heap u d0 as∧OldK s₁.heap s'.heap∧s'.os=s₁.os∧AllBare s'.gens) s₁:=by
 obtain⟨A,ho,ar⟩:=sW ds vals Qa gH hwt;have hO:xQ (ki K s₁.heap A):=KI ar;have du:jv P w (ki K s₁.heap A) s₁.heap:=P9 ar;have hS:=Aq KX ar ds vals Qa gH ho;have hV:=mi ho;have hK:∀b u,ki K s₁.heap A b=some u→K.lookup b=none:=fun b u q=>(vX ar q).1;have Nw:∀{b:Addr} {o:Obj} {es:Array DictEntry} {ep:Nat},s₁.heap.get? b=some o→o.data=.dict es ep→ki K s₁.heap A b=none:=fun {b o es ep} e d=>by
  cases q:ki K s₁.heap A b with
  | none=>rfl
  | some u =>
   obtain⟨_,vs,_,_,⟨e2,_⟩ | ⟨e2,_⟩⟩:=vX ar q
   ·rw[e2] at e;cases e;have d':Data.seq vs.toArray _=Data.dict es ep:=d;cases d'
   ·rw[e2] at e;cases e;have d':Data.seq vs.toArray _=Data.dict es ep:=d;cases d'
 generalize ki K s₁.heap A=H at hO du hS hK Nw;have Ih:∀{b:Addr} {o:Obj},s₁.heap.get? b=some o→H b=none→(vF s₁.heap H).get? b=some o:=fun e n=>Nh e n;have Tq:∀{b:Addr} {m:Str→Option Value},s₁.heap.Ns b m→(vF s₁.heap H).Ns b m:=fun {b m} ⟨o,es,ep,e,d,r⟩=>⟨o,es,ep,Ih e (Nw e d),d,r⟩;have nK:∀b o,K.lookup b=some o→H b=none:=fun b o e=>by
  cases q:H b with
  | none=>rfl
  | some u =>
   rw[hK b u q] at e;cases e
 have ZA:K.In (vF s₁.heap H):=fun b o e=>Ih (KX b o e) (nK b o e);have hM:Mod K mg (vF s₁.heap H):=⟨ZA,Tq Zy,⟨mb,Tq hb,hbb⟩,let ⟨mc,h1,h2⟩:=Zz;⟨mc,Tq h1,h2⟩⟩;have e0:A5 P w K mg (vF s₁.heap H) callerA [] s₁ H:=⟨rfl,hM,fun b o e=>Pj e,zq (Kh _ _),trivial,fun b hb=>absurd (show b∈([]:List Addr) from hb) (by simp),du,.of_eq hg⟩;have hl:vals.length=ps.length:=by rw[lS Qa];exact hlen
 refine codeAny_mono ((F _ ZA (Tq Zy)).run callerA [] s₁ H ⟨vals,[]⟩ vals (vals.map toV) _ _ hr e0 (WD s₁ vals hl) hV (zy H _ hO hS)) fun r s' x=>?_;cases r with
 | error e=>exact(Qb H e s' x).elim
 | ok fl =>
  cases fl with
  | next=>exact False.elim x
  | brk=>exact False.elim x
  | cont=>exact False.elim x
  | ret u =>
   obtain⟨v,H',os,bare,un,Vz,r',q⟩:=x;have kept:∀b o,s₁.heap.get? b=some o→s'.heap.get? b=some o:=fun b o e=>by
    cases q2:H b with
    | none=>exact un.keep b o e q2 (by intro z;exact absurd (show b∈([]:List Addr) from z) (by simp)) (by simp)
    | some u2 =>
     rcases hO b with z | ⟨ob,u3,z⟩
     ·rw[q2] at z;cases z
     ·have z2:=un.ug b ob _ z;obtain⟨e1,_⟩:=du b _ z;obtain⟨e2,_⟩:=Vz b _ z2;rw[e] at e1;cases e1;exact e2
   have KX':K.In s'.heap:=fun b o e=>kept b o (KX b o e);obtain⟨as,ZB⟩:=Dw.reads (R:=R) (cl:=cl) Vz KX' d0 v u q r';exact⟨u,as,rfl,ZB,OldK.of_keep kept,os,bare⟩
theorem zB {ds:List WData} (h:WData.layableAll ds=true):∀d∈ds,d.weight≤1048576:=fun d hd =>
 (PySem.W.layableW_iff.mp (nB.mp h d hd)).2.2
theorem yO:∀(cs:List Codec) (a:Codec.denoteAll cs),(Codec.encAll cs a).length=cs.length
 | [],_=>rfl
 | c::cs,a=>by
  show (Codec.encAll cs a.2).length+1=cs.length+1;rw[yO cs a.2]
theorem KN {r:OpenSpec} {k:Nat} {q:Program} {loose:List Str} {XP:(Str→Option Value)→Heap→Prop} {YP:World→Heap→Prop} {d:DefRec} {K:Params→aP} {CX:World→vP} {ps:List Str} {sp:World→Sp}
  (KO:r.wellSaid=true) (ZC:d.params.defaults=[]) (hlen:r.args.length=ps.length) (hr:fk k callerA)
  (hY:∀(w:World) (h:Heap),YP w h→(K w.params).In h)
  (F:∀(w:World) (mg:Str→Option Value) (fa:Addr) (h:Heap),YP w h→(K w.params).In h→h.Ns mainGlobals mg→mg d.name=some (.ref fa) →
   ∃fd:FuncData,(∀(s:Shared) (us:List Value),us.length=ps.length→BindsTo s fd ⟨us,[]⟩ (ps.zip us)) ∧
    ∀base:Heap,(K w.params).In base→base.Ns mainGlobals mg→jA r.prog w (K w.params) mg base (CX w) k fa fd ps (sp w))
  (zy:∀(w:World) (H:Hp) (xs:List V) (a:Codec.denoteAll r.args),xQ H→Codec.withinAll r.args a=true→Codec.app r.args r.asked a=true→kL (K w.params) H xs (Codec.encAll r.args a) →
   sp w xs H (fun v H'=>Dw (K w.params) H' v (r.ret.enc (Codec.app r.args r.f a))) fun _ _ _=>False)
  (Qb:∀(w:World) (H:Hp) (s:Shared) (e:Value) (s':Shared),CX w [] H s (fun _ _ _=>False) e s'→False) :
  PySem.W.WalkOS q loose XP YP r d [] (fun f vs=>PySem.call f vs):=by
 intro w oM s₁ mg mb G Y fa o pm cd doc dV kV ho hd AU hD Qc hg args vals as ZD ZE ZB Qa hlo;obtain⟨a,e1,e2⟩:=PySem.W.os_pre_some ZD;obtain⟨e3,Tr⟩:=Codec.encAll_of_decAll r.args args a e1;subst e3;have KX:=hY w _ Y;obtain⟨fd,hb,hF⟩:=F w mg fa _ Y KX G.T.g Qc;refine PySem.W.enter_call (codeAny_mono (KJ (R:=[]) (cl:=classAt oM.heap) (d0:=r.ret.enc (Codec.app r.args r.f a)) KX G.T.g G.T.b G.T.builtins G.T.nolimit hg Qa (Bl _ _) (zB ZE) hr hF hb (by rw[yO];exact hlen)
  (fun H xs hO hS=>zy w H xs a hO Tr e2 hS) fun H e s'=>Qb w H s₁ e s') fun r' s' hq=>?_)
 obtain⟨u,as',rfl,h1,h2,h3,h4⟩:=hq;exact⟨.inl ⟨u,_,as',rfl,fun _=>rfl,h1,(OpenSpec.post_iff KO Tr _ _).mpr rfl,fun z=>Bool.noConfusion (show false=true from z)⟩,h2,h3,h4⟩
theorem Ij {r:OpenSpec} {k:Nat} {q:Program} {loose:List Str} {XP:(Str→Option Value)→Heap→Prop} {YP:World→Heap→Prop} {d:DefRec} {K:Params→aP} {CX:vP} {ps:List Str} {sp:aP→Sp}
  (KO:r.wellSaid=true) (ZC:d.params.defaults=[]) (hlen:r.args.length=ps.length) (hr:fk k callerA)
  (hY:∀(w:World) (h:Heap),YP w h→(K w.params).In h)
  (F:∀(w:World) (mg:Str→Option Value) (fa:Addr) (h:Heap),YP w h→(K w.params).In h→h.Ns mainGlobals mg→mg d.name=some (.ref fa) →
   ∃fd:FuncData,(∀(s:Shared) (us:List Value),us.length=ps.length→BindsTo s fd ⟨us,[]⟩ (ps.zip us)) ∧
    ∀base:Heap,(K w.params).In base→base.Ns mainGlobals mg→jA r.prog w (K w.params) mg base CX k fa fd ps (sp (K w.params)))
  (zy:∀(K:aP) (H:Hp) (xs:List V) (a:Codec.denoteAll r.args),xQ H→Codec.withinAll r.args a=true→Codec.app r.args r.asked a=true→kL K H xs (Codec.encAll r.args a) →
   sp K xs H (fun v H'=>Dw K H' v (r.ret.enc (Codec.app r.args r.f a))) fun _ _ _=>False)
  (Qb:∀(H:Hp) (s:Shared) (e:Value) (s':Shared),CX [] H s (fun _ _ _=>False) e s'→False) :
  PySem.W.WalkOS q loose XP YP r d [] (fun f vs=>PySem.call f vs) :=
 KN (K:=K) (CX:=fun _=>CX) (sp:=fun w=>sp (K w.params)) KO ZC hlen hr hY F (fun w H xs a h1 h2 h3 h4=>zy (K w.params) H xs a h1 h2 h3 h4) fun _ H s e s'=>Qb H s e s'
end L2
namespace L2
open PySem PySem.Spec PyProof.Rows
def inClass (s:Stmt) (j:Nat):Stmt:=match s with
 | .ClassDef _ _ _ body _ _ _ _ _ _ _=>body.getD j (.Pass ⟨0,0,0,0⟩)
 | _=>.Pass ⟨0,0,0,0⟩
def jB (s:Stmt):Arguments:=match s with
 | .FunctionDef _ a _ _ _ _ _ _ _ _=>a
 | _=>{ posonlyargs:=[],args:=[],vararg:=none,kwonlyargs:=[],kw_defaults:=[],kwarg:=none,defaults:=[] }
def gO (s:Stmt):List Stmt:=match s with
 | .FunctionDef _ _ b _ _ _ _ _ _ _=>b
 | _=>[]
def ay (s:Stmt):Scope:=match s with
 | .FunctionDef _ _ _ _ _ _ sc _ _ _=>sc
 | _=>{ kind:=.function,names:=[],isGenerator:=false,isCoroutine:=false }
abbrev Bo:vP:=fun _ _ _ _ _ _=>False
abbrev E0:XK:=fun _ _ _=>False
theorem qd {X:Cx}:Passes Bo X E0:=fun _ _ _ _ _ _ _ h=>h.elim
structure xR (K:aP) (x qual:Str) (st:Stmt) (f:Addr) (fd:FuncData):Prop where
 ex:∃(oc:Value) (od:Option Addr) (kV doc pm:Value) (an:Option Addr) (bw ct:Value) (nq:Array (Option Value)),
  fd=PySem.W.fnOf x qual (jB st) (gO st) (ay st) .none kV doc pm an bw ct∧K.lookup f=some ⟨oc,od,.func fd,nq⟩∧PySem.W.codeIn K bw qual=true
 kp:PySem.W.keepIn K (.ref f)=true
section
variable {P:Program} {w:World} {K:aP} {mg:Str→Option Value} {base:Heap}
theorem xR.ok {x qual:Str} {st:Stmt} {f:Addr} {fd:FuncData} {N ps:List Str} {k:Nat} {sp:Sp} (F:xR K x qual st f fd) (S:aD N ps (ay st)) (len:∀vs H Q E,sp vs H Q E→vs.length=ps.length)
  (pW:∀(bw:Value) (A:Around) (outer:List Env) (s:Shared) (H:Hp) (vs:List V) (Q:VK) (E:XK),fk k (A.deeper (envOfC qual (ay st) s.heap.objs.size f bw))→sp vs H Q E →
   ∃t,qP (vQ Bo P w K mg base N qual (ay st) f bw A outer s H E).vI (gO st) t∧t { nx:=fun _ H'=>Q .fV H',rt:=Q } (start N vs) H):jA P w K mg base Bo (k+1) f fd ps sp:=by
 obtain⟨oc,od,kV,doc,pm,an,bw,ct,nq,rfl,lk,AU⟩:=F.ex;refine PR lk AU S len fun A outer s H vs Q E hr zy=>?_;obtain⟨t,h,q⟩:=pW bw A outer s H vs Q E hr zy;exact⟨t,h.vI,q⟩
theorem xR.binds {x qual:Str} {st:Stmt} {f:Addr} {fd:FuncData} {ps:List Str} (F:xR K x qual st f fd)
  (h:∀(kV doc pm:Value) (an:Option Addr) (bw ct:Value) (us:List Value),us.length=ps.length→bindArgs (PySem.W.fnOf x qual (jB st) (gO st) (ay st) .none kV doc pm an bw ct) ⟨us,[]⟩=pure (ps.zip us)):Binds K fd ps []:=by
 obtain⟨oc,od,kV,doc,pm,an,bw,ct,nq,rfl,lk,AU⟩:=F.ex;exact .all (h kV doc pm an bw ct)
theorem Ar {x qual:Str} {st:Stmt} {f:Addr} {oc:Value} {od an:Option Addr} {nq:Array (Option Value)} {kV doc pm bw ct:Value} (l:K.lookup f=some ⟨oc,od,.func (PySem.W.fnOf x qual (jB st) (gO st) (ay st) .none kV doc pm an bw ct),nq⟩)
 (c:PySem.W.codeIn K bw qual=true) (k:PySem.W.keepIn K (.ref f)=true):xR K x qual st f (PySem.W.fnOf x qual (jB st) (gO st) (ay st) .none kV doc pm an bw ct):=⟨⟨oc,od,kV,doc,pm,an,bw,ct,nq,rfl,l,c⟩,k⟩
end
section
variable {X:Cx}
theorem pv (i:Nat) {x:Str} {pos:Pos} (hN:autoParam (X.N[i]?=some x) cW) (hv:Pl X.env.scope x:=by first | exact Or.inl rfl | exact Or.inr (Or.inl rfl) | exact Or.inr (Or.inr rfl)) (hd:autoParam ((x==("__debug__":Str))=false) ig)
 (AU:autoParam ((x==("__classdict__":Str))=false) ig):PE X (.Name x pos) (Vh i):=SH hN hv hd AU
end
theorem aK {c A B:Prop} [Decidable c] (h1:c→A) (h2:¬c→B):if c then A else B:=by
 by_cases h:c
 ·rw[ao h];exact h1 h
 ·rw[ag h];exact h2 h
def aI (H H':Hp):Prop:=∀b o,H b=some o→H' b=some o
theorem aI.refl (H:Hp):aI H H:=fun _ _ h=>h
theorem aI.trans {H H1 H2:Hp} (a:aI H H1) (b:aI H1 H2):aI H H2:=fun c o h=>b c o (a c o h)
theorem aI.free {H H':Hp} (e:aI H H') {l:Addr} (h:H' l=Option.none):H l=Option.none:=by
 cases q:H l with
 | none=>rfl
 | some o =>
  rw[e l o q] at h;cases h
theorem aI.seq {K:aP} {H H':Hp} {a:Addr} {xs:List V} (e:aI H H') (h:bU K H a xs):bU K H' a xs:=by
 rcases h with (h | ⟨o,h⟩) | h
 ·exact .inl (.inl (e _ _ h))
 ·exact .inl (.inr ⟨o,e _ _ h⟩)
 ·exact .inr h
theorem aI.made {H H1:Hp} {x dx C:Addr} (nx:H x=Option.none) (nd:H dx=Option.none) (k:∀b o,(upd (upd H dx (.own x)) x (.ins C dx [])) b=some o→b≠x→H1 b=some o):aI H H1:=fun b o e =>
 k b o (by rw[b7 (dc e nx),b7 (dc e nd)];exact e) (dc e nx)
end L2
end
namespace G
open PySem PySem.Spec PyProof.Rows L2
def top (i:Nat):Stmt:=PySem.Challenge.pw_bitfloats_s01_answers.main.body.getD i (.Pass ⟨0,0,0,0⟩)
def ZF (K:aP):Str×Nat→Prop | (n,i)=>∃(f:Addr) (oc:Value) (od an:Option Addr) (nq:Array (Option Value)) (kV doc pm bw ct:Value),PySem.W.nsIn K mainGlobals n=some (some (.ref f))∧K.lookup f=some ⟨oc,od,.func (PySem.W.fnOf n n (jB (top i)) (gO (top i)) (ay (top i)) .none kV doc pm an bw ct),nq⟩∧PySem.W.codeIn K bw n=true∧PySem.W.keepIn K (.ref f)=true
def WG (K:aP):Str×Int→Prop | (n,i)=>∃t:Tok,PySem.W.nsIn K mainGlobals n=some (some (.int i t))
def zC (K:aP) (a:Addr) (xs:List V):Prop:=∃(o:Obj) (bq:Array Value) (n:Nat),K.lookup a=some o∧o.cls=.type "tuple"∧o.data=.seq bq n∧bq.size≤sizeLine∧Vals xs bq.toList
def WH (K:aP):Str×List Int→Prop | (n,l)=>∃a:Addr,PySem.W.nsIn K mainGlobals n=some (some (.ref a))∧zC K a (l.map V.int)
def ZG (K:aP) (x:Str):Prop:=PySem.W.nsIn K mainGlobals x=some none
def zD (K:aP) (C:Addr) (m q:Str) (i j:Nat):Prop:=∃(f:Addr) (oc:Value) (od an:Option Addr) (nq:Array (Option Value)) (kV doc pm bw ct:Value),PySem.W.findIn K (.ref C) m=some (some (.ref f))∧PySem.W.isFn K (.ref f)=true ∧
 K.lookup f=some ⟨oc,od,.func (PySem.W.fnOf m q (jB (inClass (top i) j)) (gO (inClass (top i) j)) (ay (inClass (top i) j)) .none kV doc pm an bw ct),nq⟩∧PySem.W.codeIn K bw q=true∧PySem.W.keepIn K (.ref f)=true
structure Qg (K:aP) (x:Str) (C:Addr):Prop where
 at_:PySem.W.nsIn K mainGlobals x=some (some (.ref C))
 cl:zx K C
 ZH:PySem.W.makesIn K C=true
 kp:PySem.W.keepIn K (.ref C)=true
theorem Ts {K:aP} {n:Str} {i:Nat} {f:Addr} {oc:Value} {od an:Option Addr} {nq:Array (Option Value)} {kV doc pm bw ct:Value} (a:PySem.W.nsIn K mainGlobals n=some (some (.ref f)))
 (l:K.lookup f=some ⟨oc,od,.func (PySem.W.fnOf n n (jB (top i)) (gO (top i)) (ay (top i)) .none kV doc pm an bw ct),nq⟩) (c:PySem.W.codeIn K bw n=true) (k:PySem.W.keepIn K (.ref f)=true):ZF K (n,i):=⟨f,oc,od,an,nq,kV,doc,pm,bw,ct,a,l,c,k⟩
theorem Tt {K:aP} {n:Str} {i:Int} {t:Tok} (a:PySem.W.nsIn K mainGlobals n=some (some (.int i t))):WG K (n,i):=⟨t,a⟩
theorem Tu {K:aP} {a:Addr} {xs:List V} {o:Obj} {bq:Array Value} {n:Nat} (l:K.lookup a=some o) (c:o.cls=.type "tuple") (d:o.data=.seq bq n) (s:bq.size≤sizeLine) (v:Vals xs bq.toList):zC K a xs:=⟨o,bq,n,l,c,d,s,v⟩
theorem qe {K:aP} {n:Str} {xs:List Int} {a:Addr} {o:Obj} {bq:Array Value} {m:Nat} (e:PySem.W.nsIn K mainGlobals n=some (some (.ref a))) (l:K.lookup a=some o) (c:o.cls=.type "tuple") (d:o.data=.seq bq m) (s:bq.size≤sizeLine) (v:Vals (xs.map V.int) bq.toList):WH K (n,xs):=⟨a,e,o,bq,m,l,c,d,s,v⟩
theorem v5 {K:aP} {C:Addr} {m q:Str} {i j:Nat} {f:Addr} {oc:Value} {od an:Option Addr} {nq:Array (Option Value)} {kV doc pm bw ct:Value} (a:PySem.W.findIn K (.ref C) m=some (some (.ref f))) (i':PySem.W.isFn K (.ref f)=true)
 (l:K.lookup f=some ⟨oc,od,.func (PySem.W.fnOf m q (jB (inClass (top i) j)) (gO (inClass (top i) j)) (ay (inClass (top i) j)) .none kV doc pm an bw ct),nq⟩) (c:PySem.W.codeIn K bw q=true) (k:PySem.W.keepIn K (.ref f)=true):zD K C m q i j:=⟨f,oc,od,an,nq,kV,doc,pm,bw,ct,a,i',l,c,k⟩
theorem Mw {K:aP} {x:Str} {C:Addr} {P:Addr→Prop} (a:PySem.W.nsIn K mainGlobals x=some (some (.ref C))) (cl:zx K C) (m:PySem.W.makesIn K C=true) (k:PySem.W.keepIn K (.ref C)=true) (r:P C):∃C,Qg K x C∧P C:=⟨C,⟨a,cl,m,k⟩,r⟩
theorem Tv {K:aP} {C:Addr} (a:PySem.W.nsIn K mainGlobals "NoNumber"=some (some (.ref C))) (q:PySem.W.excIn K C [.type "Exception",.type "BaseException",.type "object"] "Exception.__new__"=true):∃C,PySem.W.nsIn K mainGlobals "NoNumber"=some (some (.ref C))∧PySem.W.excIn K C [.type "Exception",.type "BaseException",.type "object"] "Exception.__new__"=true:=⟨C,a,q⟩
def Bp {A:Type} (l:List A) (P:A→Prop):Prop:=∀(i:Nat) (a:A),l[i]?=some a→P a
theorem sX {A:Type} {P:A→Prop}:Bp [] P:=fun i a e=>by simp at e
theorem g6 {A:Type} {P:A→Prop} {a:A} {l:List A} (h:P a) (r:Bp l P):Bp (a::l) P:=fun i b e=>by
 cases i with
 | zero =>
  obtain rfl:a=b:=by simpa using e
  exact h
 | succ i=>exact r i b (by simpa using e)
noncomputable def KP:List (Str×Nat):=(("byte_count":Str),5)::(("least_power":Str),6)::(("sign_bit":Str),7)::(("infinity_bits":Str),8)::(("nan_bits":Str),9)::(("is_negative":Str),10)::(("without_sign":Str),11)::(("with_sign":Str),12)::(("is_nan":Str),13)::(("is_infinite":Str),14)::(("is_zero":Str),15)::(("bits_of_row":Str),16)::(("row_of_bits":Str),17)::(("turned":Str),25)::(("whole_quotient":Str),26)::(("goes_outward":Str),27)::(("leading_power":Str),28)::(("rounded":Str),29)::(("beyond_greatest":Str),30)::(("no_number":Str),33)::(("infinity":Str),34)::(("finite":Str),35)::(("whole":Str),36)::(("taken_apart":Str),37)::(("packed":Str),38)::(("negated":Str),39)::(("times_power":Str),40)::(("is_nothing":Str),41)::(("times":Str),42)::(("plus":Str),43)::(("counted":Str),44)::(("whole_size":Str),45)::(("whole_value":Str),46)::(("nearest_whole":Str),47)::(("operation":Str),52)::(("added":Str),53)::(("subtracted":Str),54)::(("multiplied":Str),55)::(("divided":Str),56)::(("rest":Str),57)::(("exact_rest":Str),58)::(("lesser":Str),59)::(("greater":Str),60)::(("the_number":Str),61)::(("signed":Str),62)::(("whole_number":Str),63)::(("fused":Str),64)::(("scaled":Str),65)::(("converted":Str),66)::(("held_whole":Str),67)::(("from_whole":Str),68)::(("place":Str),69)::(("compared":Str),70)::(("function":Str),85)::(("by_steps":Str),86)::(("root":Str),87)::(("floor_root":Str),88)::(("horner":Str),89)::(("whole_bits":Str),90)::(("power_of_two":Str),91)::(("held":Str),92)::(("logarithm":Str),93)::(("wave":Str),94)::(("beyond_quarters":Str),95)::(("turned_if":Str),96)::(("raised":Str),97)::(("raised_to_infinity":Str),98)::(("is_whole":Str),99)::(("is_odd":Str),100)::(("exact_product":Str),106)::(("exact_sum":Str),107)::(("sum_of_numbers":Str),108)::(("sum_of_products":Str),109)::(("empty_lanes":Str),110)::(("lanes_together":Str),111)::(("spelled":Str),123)::(("told":Str),124)::(("told_size":Str),125)::(("shortest":Str),126)::(("digits_between":Str),127)::(("nearer":Str),128)::(("spelled_digits":Str),129)::(("read":Str),130)::(("read_digits":Str),131)::(("read_exponent":Str),132)::(("end_of_digits":Str),133)::(("counted_digits":Str),134)::(("power_of_ten":Str),135)::(("answers":Str),145)::(("taken_rows":Str),146)::(("answered":Str),147)::(("all_fit":Str),148)::(("with_count":Str),149)::(("number_answer":Str),150)::(("answer_op":Str),151)::(("answer_fma":Str),152)::(("answer_scale":Str),153)::(("answer_conv":Str),154)::(("answer_fn":Str),155)::(("answer_cmp":Str),156)::(("answer_text":Str),157)::(("answer_read":Str),158)::(("answer_clear":Str),159)::(("answer_add":Str),160)::(("answer_get":Str),161)::(("can_be_summed":Str),162)::(("numbers_in_row":Str),163)::(("answer_sum":Str),164)::(("answer_dot":Str),165)::(("answer_whole":Str),166)::(("answer_float":Str),167)::[]
noncomputable def Qh:List (Str×Int):=(("DOUBLE":Str),3)::(("LAST_KIND":Str),3)::(("NEAREST":Str),0)::(("DOWN":Str),1)::(("UP":Str),2)::(("TOWARD_ZERO":Str),3)::(("NEAREST_AWAY":Str),4)::(("LAST_MODE":Str),4)::(("LAST_OPERATION":Str),10)::(("LAST_HOW":Str),1)::(("UNORDERED":Str),2)::(("LAST_FUNCTION":Str),5)::(("ROOT":Str),4)::(("POWER":Str),5)::(("ONE":Str),4607182418800017408)::(("TWO_TO_THE_52":Str),4841369599423283200)::(("ABOVE_F":Str),4609047870845172685)::(("LEAST_EXPONENT":Str),-1200)::(("GREATEST_EXPONENT":Str),1100)::(("COSINE_FIRST":Str),4607182418800017408)::(("LAST_ORDER":Str),4)::(("EXACT_ORDER":Str),4)::(("LONGEST_TEXT":Str),60)::(("MOST_EXPONENT_DIGITS":Str),3)::(("DIGIT_ZERO":Str),48)::(("DIGIT_NINE":Str),57)::(("PLUS":Str),43)::(("MINUS":Str),45)::(("POINT":Str),46)::(("BIG_E":Str),69)::(("SMALL_E":Str),101)::(("DONE":Str),0)::(("REFUSED":Str),-1)::(("NO_NUMBER":Str),-2)::(("GREATEST_SCALE":Str),5000)::(("MOST_NUMBERS":Str),64)::(("MOST_BITS":Str),48)::(("LAST_SIGN":Str),1)::[]
noncomputable def Qi:List (Str×List Int):=[(("EXPONENT_BITS":Str),[5,8,8,11]),(("FRACTION_BITS":Str),[10,7,23,52]),(("EXP2":Str),[4607182418800017408,4604418534313441775,4597823092348339599,4588159806095007936,4576698095722188407,4563791841266919217,4549814923676796807,4535121250368401607,4518847663812495396,4502282772472522692,4485106894419758794,4467162552695110437,4448496323602950534,4429314530977698041]),(("LOG2":Str),[4613679739648574206,4606838314010018813,4603373076224121854,4601097129459113689,4599447016227734185,4598396944171401773,4597164722873374560,4596098495862329342,4595283145795059469,4594639448373530622,4594118359984673937,4593687895663444501]),(("SINE":Str),[4618760256179416344,13854387181501922899,4635442875846732514,13858470148813536646,4631116052258809730,13848059183245068063,4615784187318865251,13828015527061444420,4592174923320472409]),(("COSINE_OTHERS":Str),[13849621347874784734,4634270120541903556,13859085942699900922,4633675496823044795,13851503584549554828,4620584609291582659,13833771785395049103,4598751787815720949]),(("LANES":Str),[1,2,4,8])]
noncomputable def VA:List Str:=[("abs":Str),("all":Str),("enumerate":Str),("len":Str),("max":Str),("min":Str),("ord":Str),("range":Str),("reversed":Str),("sum":Str),("zip":Str)]
noncomputable def E6:List (List Int):=[[3,2],[2,3],[3,1],[3,1],[3,2],[2,2],[1,1],[2,1],[0,0],[1,2],[2,0],[3,1],[3,2],[4,1],[3,0]]
theorem Tw {K:aP} {a x0 x1 x2 x3 x4 x5 x6 x7 x8 x9 Qk WJ WK WL WM:Addr} {o:Obj} {bq:Array Value} {m:Nat} (e:PySem.W.nsIn K mainGlobals "SHAPES"=some (some (.ref a))) (l:K.lookup a=some o) (c:o.cls=.type "tuple") (d:o.data=.seq bq m) (s:bq.size≤sizeLine) (v:Vals (List.map V.ref [x0,x1,x2,x3,x4,x5,x6,x7,x8,x9,Qk,WJ,WK,WL,WM]) bq.toList)
 (r:∀(i:Nat) (x:Addr) (p:List Int),[x0,x1,x2,x3,x4,x5,x6,x7,x8,x9,Qk,WJ,WK,WL,WM][i]?=some x→E6[i]?=some p→zC K x (p.map V.int)):∃(a:Addr) (ra:List Addr),PySem.W.nsIn K mainGlobals "SHAPES"=some (some (.ref a))∧zC K a (ra.map V.ref)∧ra.length=15∧∀(i:Nat) (x:Addr) (p:List Int),ra[i]?=some x→E6[i]?=some p→zC K x (p.map V.int):=⟨a,[x0,x1,x2,x3,x4,x5,x6,x7,x8,x9,Qk,WJ,WK,WL,WM],e,⟨o,bq,m,l,c,d,s,v⟩,rfl,r⟩
structure Raw (K:aP):Prop where
 defs:Bp KP (ZF K)
 iA:Bp Qh (WG K)
 F6:Bp Qi (WH K)
 oV:Bp VA (ZG K)
 ex:∃C,Qg K "Exact" C∧(gb K C "nan"∧gb K C "infinite"∧gb K C "negative"∧gb K C "size"∧gb K C "power")∧zD K C "__init__" "Exact.__init__" 32 0
 ac:∃C,Qg K "Accumulator" C∧gb K C "total"∧zD K C "__init__" "Accumulator.__init__" 105 0∧zD K C "make_empty" "Accumulator.make_empty" 105 1∧zD K C "take" "Accumulator.take" 105 2∧zD K C "rounded_once" "Accumulator.rounded_once" 105 3
 no:∃C,PySem.W.nsIn K mainGlobals "NoNumber"=some (some (.ref C))∧PySem.W.excIn K C [.type "Exception",.type "BaseException",.type "object"] "Exception.__new__"=true
 sh:∃(a:Addr) (ra:List Addr),PySem.W.nsIn K mainGlobals "SHAPES"=some (some (.ref a))∧zC K a (ra.map V.ref)∧ra.length=15∧∀(i:Nat) (x:Addr) (p:List Int),ra[i]?=some x→E6[i]?=some p→zC K x (p.map V.int)
theorem Ql {K:aP}:∀(i:Nat) (x:Addr) (p:List Int),([]:List Addr)[i]?=some x→([]:List (List Int))[i]?=some p→zC K x (p.map V.int):=fun i x p e=>by simp at e
theorem NJ {K:aP} {x:Addr} {ra:List Addr} {q:List Int} {ps:List (List Int)} (h:zC K x (q.map V.int)) (r:∀(i:Nat) (x:Addr) (p:List Int),ra[i]?=some x→ps[i]?=some p→zC K x (p.map V.int)) :
  ∀(i:Nat) (y:Addr) (p:List Int),(x::ra)[i]?=some y→(q::ps)[i]?=some p→zC K y (p.map V.int):=fun i y p e1 e2=>by
 cases i with
 | zero =>
  obtain rfl:x=y:=by simpa using e1
  obtain rfl:q=p:=by simpa using e2
  exact h
 | succ i=>exact r i y p (by simpa using e1) (by simpa using e2)
end G
namespace BF
open Lw
theorem oW {a b:Int}:(a:Rat)≤b↔a≤b:=Rat.intCast_le_intCast
theorem mC {a b:Int}:(a:Rat)<b↔a<b:=Rat.intCast_lt_intCast
theorem rE {a b:Int}:(a:Rat)=b↔a=b:=Rat.intCast_inj
theorem gL {q:Rat} {z:Int} (h1:(z:Rat)≤q) (h2:q<z+1):q.floor=z:=by
 have a:=zv.mpr h1;have b:q.floor<z+1:=FR.mpr (by rw[dI];exact h2);omega
theorem rG {q:Rat} {z:Int} (h1:(z:Rat)-1<q) (h2:q≤z):q.ceil=z:=by
 rw[Rat.ceil_eq_neg_floor_neg,gL (z:=-z)]
 ·omega
 ·rw[iH];grind
 ·rw[iH];grind
def v8 (m:Mode) (neg odd:Bool) (tr d:Int):Bool:=match m with
 | .down=>neg
 | .up=>!neg
 | .zero=>false
 | .near=>if tr=d then odd else decide (d<tr)
 | .away=>if tr=d then true else decide (d<tr)
def wq (m:Mode) (neg:Bool) (n d:Int):Int :=
 if n%d=0∨v8 m neg (decide (n/d%2=1)) (2*(n%d)) d=false then n/d else n/d+1
def bK (neg:Bool) (q:Rat):Rat:=if neg=true then -q else q
def eJ (neg:Bool) (q:Int):Int:=if neg=true then -q else q
theorem KQ {n d:Int} (hd:0<d):∃f:Rat,(n:Rat)/d=(n/d:Int)+f∧0≤f∧f<1∧(f=0↔n%d=0)∧(2*f=1↔2*(n%d)=d)∧(1<2*f↔d<2*(n%d)):=by
 have rf:(0:Rat)<d:=fb.mpr hd;have iY:(d:Rat)≠0:=by grind
 have e:(n:Rat)=(n/d:Int)*d+((n%d:Int):Rat):=by
  rw[←bh,←dI,rE];have:=uW n d;rw[iL] at this;omega
 have r0:=pM n (jz hd);have r1:=FT n hd;refine⟨((n%d:Int):Rat)/d,?_,?_,?_,?_,?_,?_⟩
 ·rw[e];generalize ((n/d:Int):Rat)=a;generalize ((n%d:Int):Rat)=r;rw[bQ,pN,bV,F8 _ iY];grind
 ·have:(0:Rat)≤((n%d:Int):Rat):=Go.mpr r0;rw[bQ];exact pO this (cC (Rat.inv_pos.mpr rf))
 ·rw[iO rf,jh];exact mC.mpr r1
 ·constructor
  ·intro h;have:((n%d:Int):Rat)=((n%d:Int):Rat)/d*d:=(vi iY).symm;rw[h,bF] at this;exact jH.mp this
  ·intro h;rw[h];show (0:Rat)/d=0;rw[bQ,bF]
 ·have h:((n%d:Int):Rat)=((n%d:Int):Rat)/d*d:=(vi iY).symm;generalize ((n%d:Int):Rat)/d=f at h;constructor
  ·intro h2;have:((2*(n%d):Int):Rat)=d:=by rw[bh,h,←bV];show 2*f*_=_;rw[h2,jh]
   exact rE.mp this
  ·intro h2;have:((2*(n%d):Int):Rat)=d:=by rw[h2]
   rw[bh,h,←bV] at this;have h3:2*f*d=1*d:=by rw[jh];exact this
   have h4:(2*f-1)*(d:Rat)=0:=by grind
   rcases ji.mp h4 with h5 | h5
   ·grind
   ·exact absurd h5 iY
 ·rw[←mC,bh];show _↔(d:Rat)<2*_;have h:((n%d:Int):Rat)=((n%d:Int):Rat)/d*d:=(vi iY).symm;generalize ((n%d:Int):Rat)/d=f at h;rw[h,←bV];have:=zw (a:=1) (b:=2*f) rf;rw[jh] at this;exact this.symm
theorem rH (m:Mode) (neg:Bool) {n d:Int} (hd:0<d) (hn:0≤n):wholeBy m (bK neg ((n:Rat)/d))=eJ neg (wq m neg n d):=by
 obtain⟨f,e,f0,f1,z,ZI,up⟩:=KQ (n:=n) hd;have a0:0≤n/d:=f9 hn (bo hd);have a0':(0:Rat)≤((n/d:Int):Rat):=Go.mpr a0;rw[e];unfold wq;generalize n/d=a at *;generalize n%d=r at *;have c1:((a+1:Int):Rat)=(a:Rat)+1:=dI a 1;have c2:((-a:Int):Rat)=-(a:Rat):=iH a;have c3:((-a-1:Int):Rat)=-(a:Rat)-1:=by rw[nD,c2];rfl
 have c4:((-a+1:Int):Rat)=-(a:Rat)+1:=by rw[dI,c2];rfl
 have c5:((-(a+1):Int):Rat)=-(a:Rat)-1:=by rw[iH,c1];grind
 have fl:((a:Rat)+f).floor=a:=gL (by grind) (by grind);have cl:((a:Rat)+f).ceil=if r=0 then a else a+1:=by
  split
  ·next h=>exact rG (by grind) (by grind)
  ·next h=>exact rG (by rw[c1];grind) (by rw[c1];grind)
 have nfl:(-((a:Rat)+f)).floor=if r=0 then -a else -(a+1):=by
  split
  ·next h=>exact gL (by rw[c2];grind) (by rw[c2];grind)
  ·next h=>exact gL (by rw[c5];grind) (by rw[c5];grind)
 have ncl:(-((a:Rat)+f)).ceil=-a:=rG (by rw[c2];grind) (by rw[c2];grind);have ZJ:((a:Rat)+f+1/2).floor=if 2*r<d then a else a+1:=by
  split
  ·next h=>exact gL (by grind) (by grind)
  ·next h=>exact gL (by rw[c1];grind) (by rw[c1];grind)
 have hf2:(-((a:Rat)+f)+1/2).floor=if d<2*r then -(a+1) else -a:=by
  split
  ·next h=>exact gL (by rw[c5];grind) (by rw[c5];grind)
  ·next h=>exact gL (by rw[c2];grind) (by rw[c2];grind)
 cases m<;>cases neg<;>simp only[wholeBy,bK,eJ,v8,nearestEven,nearestAway,aJ,aO,aM,fl,cl,nfl,ncl,ZJ,hf2,vB,fS]
 ·
  by_cases h:2*r<d
  ·simp only[ao h];have hn:¬((a:Rat)=(a:Rat)+f+1/2):=by grind
   have h3:¬2*r=d:=by omega
   have h4:¬d<2*r:=by omega
   simp[hn,h3,h4]
  ·simp only[ag h,c1];have hr:¬r=0:=by omega
   have e1:((a:Rat)+1=(a:Rat)+f+1/2)↔2*r=d:=by rw[←ZI];constructor<;>intro q<;>grind
   simp only[e1,hr,false_or];by_cases h3:2*r=d
   ·simp only[h3,true_and,aJ];by_cases h5:a%2=1
    ·have:¬(a+1)%2≠0:=by omega
     simp[h5,this]
    ·have:(a+1)%2≠0:=by omega
     simp[h5,this]
   ·have h4:d<2*r:=by omega
    simp[h3,h4]
 ·
  by_cases h:d<2*r
  ·simp only[ao h,c5];have hn:¬(-(a:Rat)-1=-((a:Rat)+f)+1/2):=by grind
   have hr:¬r=0:=by omega
   have h3:¬2*r=d:=by omega
   simp[hn,hr,h3,h]
  ·simp only[ag h,c2];have e1:(-(a:Rat)=-((a:Rat)+f)+1/2)↔2*r=d:=by rw[←ZI];constructor<;>intro q<;>grind
   simp only[e1];by_cases h3:2*r=d
   ·have hr:¬r=0:=by omega
    simp only[h3,true_and,aJ,hr,false_or];by_cases h5:a%2=1
    ·have:(-a)%2≠0:=by omega
     simp[h5,this];omega
    ·have:¬(-a)%2≠0:=by omega
     simp only[this,aM,h5,k9,aJ]
   ·simp[h3,h]
 ·by_cases hr:r=0<;>simp[hr]
 ·by_cases hr:r=0<;>simp[hr]
 ·by_cases hr:r=0<;>simp[hr]
 ·by_cases hr:r=0<;>simp[hr]
 ·have:(0:Rat)≤(a:Rat)+f:=by grind
  simp[this]
 ·by_cases hx:(0:Rat)≤-((a:Rat)+f)
  ·have WO:f=0:=by grind
   have hr:r=0:=z.mp WO;simp[hx,hr]
  ·simp[hx]
 ·have:(0:Rat)≤(a:Rat)+f:=by grind
  simp only[this,aJ];by_cases h:2*r<d
  ·have h3:¬2*r=d:=by omega
   have h4:¬d<2*r:=by omega
   simp[h,h3,h4]
  ·have hr:¬r=0:=by omega
   by_cases h3:2*r=d
   ·simp[h3,hr]
   ·have h4:d<2*r:=by omega
    simp[h,h3,h4,hr]
 ·have e2:-(-((a:Rat)+f))=(a:Rat)+f:=nE _;by_cases hx:(0:Rat)≤-((a:Rat)+f)
  ·have WO:f=0:=by grind
   have hr:r=0:=z.mp WO;have h4:¬d<2*r:=by omega
   simp[hx,hr,h4,hd];omega
  ·simp only[hx,aM,e2,ZJ];by_cases h:2*r<d
   ·have h3:¬2*r=d:=by omega
    have h4:¬d<2*r:=by omega
    simp[h,h3,h4]
   ·have hr:¬r=0:=by omega
    by_cases h3:2*r=d
    ·simp[h3,hr]
    ·have h4:d<2*r:=by omega
     simp[h,h3,h4,hr]
end BF
namespace BF
open Lw
theorem nQ (k:Int):two k=(2:Rat)^k:=by
 unfold two;split
 ·next h =>
  obtain⟨n,rfl⟩:=aA h;rw[aN,nF]
 ·next h =>
  have e:k=-((-k).toNat:Int):=by omega
  conv=>rhs;rw[e,Rat.zpow_neg,nF]
  rw[bQ,jh]
theorem two_pos (k:Int):0<two k:=by rw[nQ];exact Rat.zpow_pos Ke
theorem jm (k:Int):two k≠0:=fun h=>by have:=two_pos k;rw[h] at this;exact Rat.lt_irrefl this
theorem aY (a b:Int):two (a+b)=two a*two b:=by
 rw[nQ,nQ,nQ];exact Rat.zpow_add Ke a b
theorem dg:two 0=1:=by rw[nQ];exact Rat.zpow_zero 2
theorem jC:two 1=2:=by rw[nQ];exact Rat.zpow_one 2
theorem dM (n:Nat):two (n:Int)=((2^n:Nat):Rat):=by
 rw[nQ,nF,G2];rfl
theorem gd (n:Nat):two (n:Int)=((2^n:Int):Rat):=by
 rw[nQ,nF,Rat.intCast_pow];rfl
theorem iU (k:Int):two (k+1)=2*two k:=by rw[aY,jC,fc]
theorem oX (k:Int):two (-k)*two k=1:=by rw[←aY];rw[show -k+k=0 by omega,dg]
theorem gr {a b:Int} (h:a≤b):two a≤two b:=by
 obtain⟨n,e⟩:=aA (show 0≤b-a by omega);have:b=a+(n:Int):=by omega
 rw[this,aY];have h1:(1:Rat)≤two (n:Int):=by
  rw[dM];have:1≤2^n:=pP;exact dQ.mpr this
 have:=gw h1 (cC (two_pos a));rw[cI] at this;exact this
theorem As {a b:Int} (h:a<b):two a<two b:=by
 have h1:=gr (show a+1≤b by omega);rw[iU] at h1;have:=two_pos a;grind
theorem ej {a b:Int}:two a<two b↔a<b:=by
 constructor
 ·intro h;by_cases q:a<b
  ·exact q
  ·have:=gr (show b≤a by omega);grind
 ·exact As
theorem lg (q:Rat) (u:Int):q/two u=q*two (-u):=by
 have h:=oX u;have e:(two u)⁻¹=two (-u):=pR (by rw[fc];exact h);rw[bQ,e]
theorem cB {a b:Rat} (k:Int):a*two k≤b*two k↔a≤b :=
 ⟨fun h=>J9 h (two_pos k),fun h=>j4 h (cC (two_pos k))⟩
theorem cq {a b:Rat} (k:Int):a*two k<b*two k↔a<b:=zw (two_pos k)
theorem fq {a b:Rat} (k:Int):a*two k=b*two k↔a=b:=by
 constructor
 ·intro h;have h1:=(cB (a:=a) (b:=b) k).mp (by rw[h];exact Ai);have h2:=(cB (a:=b) (b:=a) k).mp (by rw[h];exact Ai);exact Rat.le_antisymm h1 h2
 ·intro h;rw[h]
theorem KR {q:Rat} {j k:Int} (h1:two j≤q) (h2:q<two (j+1)) (h3:two k≤q) (h4:q<two (k+1)):j=k:=by
 have a:two j<two (k+1):=by grind
 have b:two k<two (j+1):=by grind
 rw[ej] at a b;omega
theorem g7 {q:Rat} (hq:0<q):two (log2 q)≤q∧q<two (log2 q+1):=by
 have hs:size q=q:=by unfold size;rw[ag];intro h;grind
 have hn:0<q.num:=by
  have:q.num≠0:=fun h=>by rw[Rat.num_eq_zero] at h;grind
  have:=Hf.mpr (cC hq);omega
 have hd:q.den≠0:=q.den_nz;have hdp:0<q.den:=vC hd;have eq:q*(q.den:Rat)=((q.num.natAbs:Nat):Rat):=by
  have h1:q=(q.num:Rat)/(q.den:Rat):=by
   have:=Hg q.num q.den;rw[Hh] at this;exact this
  have WQ:(q.den:Rat)≠0:=fun h=>hd (Hj.mp h);have h2:q*(q.den:Rat)=(q.num:Rat):=by
   conv=>lhs;arg 1;rw[h1]
   exact vi WQ
  rw[h2,←bu];exact rE.mpr Kk
 have na:q.num.natAbs≠0:=by omega
 have a1:=Ak na;have a2:=@vO q.num.natAbs;have b1:=Ak hd;have b2:=@vO q.den;have A1:two (Nat.log2 q.num.natAbs:Int)≤q*(q.den:Rat):=by rw[eq,dM];exact dQ.mpr a1
 have A2:q*(q.den:Rat)<two ((Nat.log2 q.num.natAbs:Int)+1):=by rw[eq];exact(by rw[show ((Nat.log2 q.num.natAbs:Int)+1)=((Nat.log2 q.num.natAbs+1:Nat):Int) from rfl,dM];exact Al.mpr a2)
 have B1:two (Nat.log2 q.den:Int)≤(q.den:Rat):=by rw[dM];exact dQ.mpr b1
 have B2:(q.den:Rat)<two ((Nat.log2 q.den:Int)+1):=by rw[show ((Nat.log2 q.den:Int)+1)=((Nat.log2 q.den+1:Nat):Int) from rfl,dM];exact Al.mpr b2
 unfold log2;simp only[hs];generalize (Nat.log2 q.num.natAbs:Int)=a at *;generalize (Nat.log2 q.den:Int)=b at *;generalize (q.den:Rat)=D at *;clear eq;have L:two (a-b-1)<q:=by
  have h1:two (a-b-1)*two (b+1)=two a:=by rw[←aY];congr 1;omega
  have h2:q*D<q*two (b+1):=Ka B2 hq;have h3:two (a-b-1)*two (b+1)<q*two (b+1):=by grind
  exact(cq _).mp h3
 have U:q<two (a-b+1):=by
  have h1:two (a-b+1)*two b=two (a+1):=by rw[←aY];congr 1;omega
  have h2:q*two b≤q*D:=gw B1 (cC hq);have h3:q*two b<two (a-b+1)*two b:=by grind
  exact(cq _).mp h3
 split
 ·next h=>rw[show a-b-1+1=a-b by omega];exact⟨cC L,h⟩
 ·next h =>
  split
  ·next h2=>exact absurd U (dZ.mpr h2)
  ·next h2=>exact⟨dZ.mp h,U⟩
theorem Ik {q:Rat} {k:Int} (h1:two k≤q) (h2:q<two (k+1)):log2 q=k:=by
 have hq:0<q:=by have:=two_pos k;grind
 have ⟨a,b⟩:=g7 hq;exact KR a b h1 h2
theorem NK (q:Rat):log2 (-q)=log2 q:=by
 by_cases h0:q=0
 ·subst h0;rfl
 have hs:size (-q)=size q:=by
  unfold size;by_cases h:q<0
  ·rw[ao h,ag (by grind)]
  ·rw[ag h,ao (by grind),nE]
 unfold log2;rw[hs];simp only[Rat.neg_num,Rat.neg_den,Int.natAbs_neg]
end BF
namespace BF
open Lw
structure Ok (t:Fmt):Prop where
 e2:2≤t.e
 m1:1≤t.m
 mb:(t.m:Int)+2≤t.bias
def aU (t:Fmt):Int:=2^(t.e+t.m)
def bE (t:Fmt):Int:=(2^t.e-1)*2^t.m
def az (t:Fmt):Int:=t.leastExp-t.m
theorem aX (n:Nat):(0:Int)<2^n:=An Ke
theorem bO (n:Nat):((2^n:Nat):Int)=2^n:=by rw[Int.natCast_pow];rfl
theorem gP {a b:Nat} (h:a≤b):(2:Int)^a≤2^b:=by
 rw[←bO,←bO];exact iX.mpr (fA Ke h)
theorem dY (t:Fmt):(t.sign:Int)=aU t:=bO _
theorem gi (t:Fmt) (h:Ok t):0<bE t:=by
 unfold bE;have h1:(2:Int)^1≤2^t.e:=gP (by have:=h.e2;omega);exact pU Kk (aX _)
theorem kM (t:Fmt) (neg:Bool) (field frac:Nat):(t.pack neg field frac:Int)=(if neg=true then aU t else 0)+field*2^t.m+frac:=by
 unfold Fmt.pack;rw[cJ,cJ,eS,bO];cases neg
 ·rfl
 ·simp only[aJ,dY]
theorem E7 (t:Fmt) (neg:Bool):(t.zero neg:Int)=if neg=true then aU t else 0:=by
 unfold Fmt.zero;rw[kM];simp
theorem rJ (t:Fmt):(t.top:Int)=2^t.e-1:=by
 unfold Fmt.top;have:1≤2^t.e:=pP;rw[Ao this,bO];rfl
theorem xT (t:Fmt) (neg:Bool):(t.inf neg:Int)=(if neg=true then aU t else 0)+bE t:=by
 unfold Fmt.inf;rw[kM,rJ];unfold bE;simp
theorem NL (t:Fmt) (h:Ok t) (m:Mode) (neg:Bool):(t.over m neg:Int)=(if neg=true then aU t else 0)+(if m.beyond neg=true then bE t else bE t-1):=by
 unfold Fmt.over;split
 ·rw[xT]
 ·rw[kM];have h1:1≤t.top:=by
   have:=rJ t;have h1:(2:Int)^1≤2^t.e:=gP (by have:=h.e2;omega);omega
  have h2:1≤2^t.m:=pP;rw[Ao h1,rJ,Ao h2,bO];unfold bE;have e:((2:Int)^t.e-1-1)*2^t.m=(2^t.e-1)*2^t.m-2^t.m:=by rw[nL (2^t.e-1) 1,de]
  show _+(2^t.e-1-1)*2^t.m+(2^t.m-1)=_;rw[e];omega
theorem Br (t:Fmt) (h:Ok t):2*t.bias=2^t.e-2:=by
 unfold Fmt.bias;have:(2:Int)^t.e=2*2^(t.e-1):=by
  have:=h.e2;obtain⟨k,hk⟩:∃k,t.e=k+1:=⟨t.e-1,Kk⟩;rw[hk,gz,lB,iL]
 rw[bO,this];omega
def bl (n:Int):Int:=if n=0 then 0 else (Nat.log2 n.natAbs:Int)+1
theorem oY {n:Int} (h:0<n):two (bl n-1)≤(n:Rat)∧(n:Rat)<two (bl n):=by
 have iY:n.natAbs≠0:=by omega
 have a1:=Ak iY;have a2:=@vO n.natAbs;have e:(n:Rat)=((n.natAbs:Nat):Rat):=by rw[←bu];exact rE.mpr Kk
 unfold bl;rw[ag Kk,e];constructor
 ·rw[show ((Nat.log2 n.natAbs:Int)+1-1)=(Nat.log2 n.natAbs:Int) by omega,dM];exact dQ.mpr a1
 ·rw[show ((Nat.log2 n.natAbs:Int)+1)=((Nat.log2 n.natAbs+1:Nat):Int) from rfl,dM];exact Al.mpr a2
def lead (n d:Int):Int :=
 let p:=bl n-bl d
 if (if 0≤p then decide (n<d*2^p.toNat) else decide (n*2^(-p).toNat<d))=true then p-1 else p
theorem cX {k:Int} (h:0≤k):two k=((2^k.toNat:Int):Rat):=by
 obtain⟨n,rfl⟩:=aA h;rw[aN];exact gd n
theorem uS {n d:Int} (hn:0<n) (hd:0<d):two (lead n d)≤(n:Rat)/d∧(n:Rat)/d<two (lead n d+1):=by
 have ⟨n1,n2⟩:=oY hn;have ⟨d1,d2⟩:=oY hd;have rf:(0:Rat)<d:=fb.mpr hd;have Hw:(0:Rat)<n:=fb.mpr hn;have key:∀k:Int,(n:Rat)/d<two k↔(n:Rat)<two k*d:=fun k=>iO rf;have low:two (bl n-bl d-1)≤(n:Rat)/d:=by
  refine dZ.mp fun h=>?_;rw[key] at h;have h1:two (bl n-bl d-1)*d<two (bl n-bl d-1)*two (bl d):=Ka d2 (two_pos _);rw[←aY,show bl n-bl d-1+bl d=bl n-1 by omega] at h1;grind
 have high:(n:Rat)/d<two (bl n-bl d+1):=by
  rw[key];have h1:two (bl n-bl d+1)*two (bl d-1)≤two (bl n-bl d+1)*d:=gw d1 (cC (two_pos _));rw[←aY,show bl n-bl d+1+(bl d-1)=bl n by omega] at h1;grind
 have test:((if 0≤bl n-bl d then decide (n<d*2^(bl n-bl d).toNat) else decide (n*2^(-(bl n-bl d)).toNat<d))=true)↔(n:Rat)/d<two (bl n-bl d):=by
  rw[key];generalize bl n-bl d=p;split
  ·next h =>
   rw[bj,cX h,←mC,bh,fc]
  ·next h =>
   rw[bj,←mC,bh,←cX (show 0≤-p by omega)];have:=cq (a:=(n:Rat)) (b:=two p*d) (-p);rw[←this];rw[show two p*(d:Rat)*two (-p)=d*(two (-p)*two p) by grind,oX,cI]
 unfold lead;dsimp only;by_cases h:(if 0≤bl n-bl d then decide (n<d*2^(bl n-bl d).toNat) else decide (n*2^(-(bl n-bl d)).toNat<d))=true
 ·rw[ao h];rw[test] at h;exact⟨low,by rw[show bl n-bl d-1+1=bl n-bl d by omega];exact h⟩
 ·rw[ag h];rw[test] at h;exact⟨dZ.mp h,high⟩
theorem xU (m:Mode) (neg:Bool) (n d:Int):wq m neg n d=n/d∨(wq m neg n d=n/d+1∧n%d≠0):=by
 unfold wq;split
 ·exact .inl rfl
 ·next h=>exact .inr ⟨rfl,fun q=>h (.inl q)⟩
theorem KS {m:Mode} {neg:Bool} {n d a:Int} (hd:0<d) (h:(a:Rat)≤(n:Rat)/d):a≤wq m neg n d:=by
 have h1:a≤n/d:=by
  have rf:(0:Rat)<d:=fb.mpr hd;have:¬(n:Rat)/d<a:=dZ.mpr h;rw[iO rf,←bh,mC] at this;exact(Int.le_ediv_iff_mul_le hd).mpr Kk
 rcases xU m neg n d with e | ⟨e,_⟩<;>omega
theorem F7 {m:Mode} {neg:Bool} {n d b:Int} (hd:0<d) (h:(n:Rat)/d≤(b:Rat)):wq m neg n d≤b:=by
 have rf:(0:Rat)<d:=fb.mpr hd;have:¬(b:Rat)<(n:Rat)/d:=dZ.mpr h;rw[Hk rf,←bh,mC] at this;have h2:=uW n d;have h3:=pM n (jz hd);rcases xU m neg n d with e | ⟨e,hr⟩
 ·rw[e];refine Int.not_lt.mp fun q=>?_;have:d*(b+1)≤d*(n/d):=qD Kk (bo hd);rw[Int.mul_add,iL d b] at this;omega
 ·rw[e];refine Int.not_lt.mp fun q=>?_;have:d*b≤d*(n/d):=qD Kk (bo hd);rw[iL d b] at this;omega
theorem uT {m:Mode} {neg:Bool} {n d:Int} (hd:0<d) (hn:0≤n):0≤wq m neg n d:=by
 have:=f9 hn (bo hd);rcases xU m neg n d with e | ⟨e,_⟩<;>omega
def ws (t:Fmt) (neg:Bool) (z:Int):Int:=if neg=true then z+aU t else z
def Bs (t:Fmt) (m:Mode) (neg:Bool) (n d power:Int):Int :=
 if n=0 then ws t neg 0 else
  let unit:=max (lead n d+power-t.m) (az t);let shift:=power-unit;let count:=if 0≤shift then wq m neg (n*2^shift.toNat) d else wq m neg n (d*2^(-shift).toNat)
  let size:=(unit-az t)*2^t.m+count
  ws t neg (if bE t≤size then (if m.beyond neg=true then bE t else bE t-1) else size)
theorem sY (t:Fmt) (h:Ok t) {c j:Nat} {u:Int} (hu:u=az t+j) (h1:c≤2^(t.m+1)) (h2:0<j→2^t.m≤c) :
  (two (t.bias+1)≤(c:Rat)*two u)↔bE t≤(j:Int)*2^t.m+c:=by
 have hb:=Br t h;have hM:=aX t.m;have hB:(4:Int)≤2^t.e:=by
  have:(2:Int)^2≤2^t.e:=gP h.e2;omega
 have hle:az t=1-t.bias-t.m:=by unfold az Fmt.leastExp;omega
 have c1:(c:Int)≤2*2^t.m:=by
  have:=iX.mpr h1;rw[bO,gz] at this;omega
 have c2:0<j→(2:Int)^t.m≤c:=fun q=>by
  have:=iX.mpr (h2 q);rw[bO] at this;exact this
 have e1:two (t.bias+1)=two (t.bias+1-u)*two u:=by rw[←aY];congr 1;omega
 rw[e1,cB];have e2:t.bias+1-u=(2^t.e-2-(j:Int))+t.m:=by omega
 rw[e2];unfold bE;have cr:(c:Rat)=((c:Int):Rat):=(bu c).symm;rw[cr];generalize (c:Int)=C at *;have hm:two (t.m:Int)=((2^t.m:Int):Rat):=gd t.m;by_cases q1:(j:Int)+4≤2^t.e
 ·have a:¬two ((2^t.e-2-(j:Int))+t.m)≤(C:Rat):=by
   intro q;have h3:=gr (show (2+(t.m:Int))≤(2^t.e-2-(j:Int))+t.m by omega);have h4:two (2+(t.m:Int))=((4*2^t.m:Int):Rat):=by
    rw[aY,hm,bh,show two 2=4 by rfl];rfl
   rw[h4] at h3;have h5:=oW.mp (Bf h3 q);omega
  have b:¬(2^t.e-1)*2^t.m≤(j:Int)*2^t.m+C:=by
   intro q;have h3:((j:Int)+3)*2^t.m≤(2^t.e-1)*2^t.m:=i6 Kk Kk;rw[lC] at h3;omega
  exact⟨fun q=>absurd q a,fun q=>absurd q b⟩
 ·by_cases q2:(j:Int)+3=2^t.e
  ·have e3:(2:Int)^t.e-2-(j:Int)+t.m=1+t.m:=by omega
   have e4:two (1+(t.m:Int))=((2*2^t.m:Int):Rat):=by rw[aY,hm,bh,jC];rfl
   rw[e3,e4,oW,show (2:Int)^t.e-1=(j:Int)+2 by omega,lC];omega
  ·by_cases q3:(j:Int)+2=2^t.e
   ·have e3:(2:Int)^t.e-2-(j:Int)+t.m=t.m:=by omega
    rw[e3,hm,oW,show (2:Int)^t.e-1=(j:Int)+1 by omega,lC];omega
   ·have hj:0<j:=by omega
    have a:two ((2^t.e-2-(j:Int))+t.m)≤(C:Rat):=by
     have h3:=gr (show (2^t.e-2-(j:Int))+t.m≤(t.m:Int) by omega);rw[hm] at h3;exact Bf h3 (oW.mpr (c2 hj))
    have b:(2^t.e-1)*2^t.m≤(j:Int)*2^t.m+C:=by
     have h3:(2^t.e-1)*2^t.m≤(j:Int)*2^t.m:=i6 Kk Kk;have:=c2 hj;omega
    exact⟨fun _=>b,fun _=>a⟩
theorem made_int (t : Fmt) (h : Ok t) (m : Mode) (neg : Bool) (c j : Nat) (u : Int) (hu : u = az t + j) (h1 : c ≤ 2 ^ (t.m + 1)) (h2 : 0 < j → 2 ^ t.m ≤ c) :
    ((if two (t.bias + 1) ≤ (c : Rat) * two u then t.over m neg else t.make neg c u : Nat) : Int) =
      ws t neg (if bE t ≤ (j : Int) * 2 ^ t.m + c then (if m.beyond neg = true then bE t else bE t - 1) else (j : Int) * 2 ^ t.m + c) := by
  have hb := Br t h
  have hM := aX t.m
  have hB : (4 : Int) ≤ 2 ^ t.e := by
    have : (2 : Int) ^ 2 ≤ 2 ^ t.e := gP h.e2
    omega
  have hle : az t = 1 - t.bias - t.m := by unfold az Fmt.leastExp; omega
  have c1 : (c : Int) ≤ 2 * 2 ^ t.m := by
    have := iX.mpr h1
    rw [bO, gz] at this; omega
  have c2 : 0 < j → (2 : Int) ^ t.m ≤ c := fun q => by
    have := iX.mpr (h2 q)
    rw [bO] at this; exact this
  have key := sY t h (c := c) (j := j) hu h1 h2
  by_cases q : two (t.bias + 1) ≤ (c : Rat) * two u
  · rw [ao q, ao (key.mp q), NL t h]
    unfold ws; cases neg <;> simp <;> omega
  · rw [ag q, ag fun z => q (key.mpr z)]
    unfold Fmt.make
    split
    · next h3 =>
      have hj : j = 0 := by
        refine qS fun z => ?_
        have := h2 Kk; omega
      subst hj
      rw [kM]; unfold ws; cases neg <;> simp <;> omega
    · next h3 =>
      have h4 : 2 ^ t.m ≤ c := by omega
      split
      · next h5 =>
        rw [kM, Ao h4, bO]
        have e3 : ((u + t.m + t.bias).toNat : Int) = j + 1 := by omega
        rw [e3, lC]; unfold ws; cases neg <;> simp <;> omega
      · next h5 =>
        have h6 : c = 2 ^ (t.m + 1) := by omega
        have h7 : (c : Int) = 2 * 2 ^ t.m := by rw [h6, bO, gz]; omega
        rw [kM]
        have e3 : ((u + 1 + t.m + t.bias).toNat : Int) = j + 2 := by omega
        rw [e3, lC, h7]; unfold ws; cases neg <;> simp <;> omega
end BF
namespace BF
open Lw
theorem Bt {neg:Bool} {q:Rat} (h:0<q):decide (bK neg q<0)=neg:=by
 unfold bK;cases neg
 ·simp only[aO,aM,Kb];grind
 ·simp only[aJ,bj];grind
theorem mF (neg:Bool) (q r:Rat):bK neg q*r=bK neg (q*r):=by
 unfold bK;cases neg
 ·simp
 ·simp only[aJ];exact qT _ _
theorem dG {neg:Bool} {q:Rat}:bK neg q=0↔q=0:=by
 unfold bK;cases neg
 ·simp
 ·simp only[aJ];constructor<;>intro h<;>grind
theorem xV (neg:Bool) (q:Rat):log2 (bK neg q)=log2 q:=by
 unfold bK;cases neg
 ·simp
 ·simp only[aJ];exact NK q
theorem Bu (neg:Bool) {z:Int} (h:0≤z):((eJ neg z).natAbs:Int)=z:=by
 unfold eJ;cases neg<;>simp<;>omega
theorem oZ (t:Fmt) (q:Rat):t.unit q=max (log2 q-t.m) (az t):=by
 unfold Fmt.unit az;split<;>omega
theorem v9 (t:Fmt) (m:Mode) (neg:Bool) {n d power:Int} (hn:0<n) (hd:0<d) :
  ∃(u c:Int),u=max (lead n d+power-t.m) (az t)∧c=(if 0≤power-u then wq m neg (n*2^(power-u).toNat) d else wq m neg n (d*2^(-(power-u)).toNat)) ∧
   t.unit (bK neg ((n:Rat)/d*two power))=u∧wholeBy m (bK neg ((n:Rat)/d*two power)/two u)=eJ neg c∧0≤c∧c≤2^(t.m+1)∧(az t<u→2^t.m≤c) ∧
   0<(n:Rat)/d*two power:=by
 have ⟨l1,l2⟩:=uS hn hd;have rf:(0:Rat)<d:=fb.mpr hd;have Hw:(0:Rat)<n:=fb.mpr hn;have hx:(0:Rat)<(n:Rat)/d:=by have:=two_pos (lead n d);grind
 have hq:(0:Rat)<(n:Rat)/d*two power:=fF hx (two_pos _);have hL:log2 ((n:Rat)/d*two power)=lead n d+power:=Ik
  (by rw[aY];exact(cB _).mpr l1) (by rw[show lead n d+power+1=lead n d+1+power by omega,aY];exact(cq _).mpr l2)
 refine⟨_,_,rfl,rfl,?_⟩;generalize hu:max (lead n d+power-t.m) (az t)=u;have e1:t.unit (bK neg ((n:Rat)/d*two power))=u:=by rw[oZ,xV,hL];exact hu
 have e2:bK neg ((n:Rat)/d*two power)/two u=bK neg ((n:Rat)/d*two (power-u)):=by
  rw[lg,mF,bV,←aY];rfl
 have s1:(n:Rat)/d*two (power-u)≤((2^(t.m+1):Int):Rat):=by
  rw[←gd];have h1:(n:Rat)/d*two (power-u)<two (lead n d+1)*two (power-u):=(cq _).mpr l2;rw[←aY] at h1;have h2:=gr (show lead n d+1+(power-u)≤((t.m+1:Nat):Int) by omega);grind
 have s2:az t<u→((2^t.m:Int):Rat)≤(n:Rat)/d*two (power-u):=fun q=>by
  rw[←gd];have h1:two (lead n d)*two (power-u)≤(n:Rat)/d*two (power-u):=(cB _).mpr l1;rw[←aY] at h1;have h2:=gr (show ((t.m:Nat):Int)≤lead n d+(power-u) by omega);grind
 by_cases hs:0≤power-u
 ·rw[ao hs];have e3:(n:Rat)/d*two (power-u)=((n*2^(power-u).toNat:Int):Rat)/d:=by
   rw[cX hs,bh,bQ,bQ];grind
  have PK:0≤n*2^(power-u).toNat:=fH (bo hn) (bo (aX _));rw[e3] at s1 s2;refine⟨e1,?_,uT hd PK,F7 hd s1,fun q=>KS hd (s2 q),hq⟩;rw[e2,e3];exact rH m neg hd PK
 ·rw[ag hs];have TB:0<d*2^(-(power-u)).toNat:=pU hd (aX _);have e3:(n:Rat)/d*two (power-u)=(n:Rat)/((d*2^(-(power-u)).toNat:Int):Rat):=by
   rw[bh,←cX (show 0≤-(power-u) by omega)];rw[bQ,bQ,Bq];have:(two (-(power-u)))⁻¹=two (power-u):=pR (oX _);rw[this];grind
  rw[e3] at s1 s2;refine⟨e1,?_,uT TB (bo hn),F7 TB s1,fun q=>KS TB (s2 q),hq⟩;rw[e2,e3];exact rH m neg TB (bo hn)
theorem jS (t:Fmt) (h:Ok t) (m:Mode) (neg:Bool) {n d power:Int} (hn:0<n) (hd:0<d) :
  ∃c j:Nat,(az t+j=max (lead n d+power-t.m) (az t))∧t.unit (bK neg ((n:Rat)/d*two power))=az t+j ∧
   wholeBy m (bK neg ((n:Rat)/d*two power)/two (az t+j))=eJ neg c∧c≤2^(t.m+1)∧(0<j→2^t.m≤c) ∧
   (c:Int)=(if 0≤power-(az t+j) then wq m neg (n*2^(power-(az t+j)).toNat) d else wq m neg n (d*2^(-(power-(az t+j))).toNat)) ∧
   (t.round m (bK neg ((n:Rat)/d*two power)):Int)=ws t neg (if bE t≤(j:Int)*2^t.m+c then (if m.beyond neg=true then bE t else bE t-1) else (j:Int)*2^t.m+c):=by
 obtain⟨u,c,hu,hc,e1,e2,c0,c1,c2,hq⟩:=v9 t m neg (power:=power) hn hd;obtain⟨j,hj⟩:=aA (show 0≤u-az t by omega);obtain⟨C,hC⟩:=aA c0;have uj:u=az t+j:=by omega
 subst uj;subst hC;have d1:C≤2^(t.m+1):=by
  have:=c1;rw[←bO] at this;exact iX.mp this
 have d2:0<j→2^t.m≤C:=fun q=>by
  have:=c2 Kk;rw[←bO] at this;exact iX.mp this
 refine⟨C,j,hu,e1,e2,d1,d2,hc,?_⟩;unfold Fmt.round;simp only[e1,e2,Bt hq];have e3:(eJ neg (C:Int)).natAbs=C:=by
  have:=Bu neg (z:=(C:Int)) Kk;omega
 rw[e3];exact made_int t h m neg C j _ rfl d1 d2
theorem wa (t:Fmt) (h:Ok t) (m:Mode) (neg:Bool) {n d power:Int} (hn:0≤n) (hd:0<d) :
  (t.put m neg (bK neg ((n:Rat)/d*two power)):Int)=Bs t m neg n d power:=by
 unfold Fmt.put Bs;by_cases h0:n=0
 ·subst h0;have:bK neg (((0:Int):Rat)/d*two power)=0:=by
   rw[dG];show (0:Rat)/d*two power=0;rw[bQ,bF,bF]
  rw[ao this,ao rfl,E7];unfold ws;simp
 ·have Hw:0<n:=by omega
  obtain⟨c,j,hu,e1,e2,d1,d2,hc,hr⟩:=jS t h m neg (power:=power) Hw hd;have hq:0<(n:Rat)/d*two power:=by
   have ⟨l1,l2⟩:=uS Hw hd;have hx:(0:Rat)<(n:Rat)/d:=by have:=two_pos (lead n d);grind
   exact fF hx (two_pos _)
  have:¬bK neg ((n:Rat)/d*two power)=0:=by rw[dG];grind
  rw[ag this,ag h0,hr];simp only[←hu,←hc];rw[show az t+(j:Int)-az t=j by omega]
theorem o4 (q:Rat):∃(neg:Bool) (n d:Int),0≤n∧0<d∧q=bK neg ((n:Rat)/d*two 0)∧(q≠0→neg=decide (q<0)):=by
 refine⟨decide (q<0),q.num.natAbs,q.den,Kk,by have:=q.den_pos;omega,?_,fun _=>rfl⟩;have h1:q=(q.num:Rat)/(q.den:Rat):=by
  have:=Hg q.num q.den;rw[Hh] at this;exact this
 rw[dg,cI];unfold bK;by_cases h:q<0
 ·have hn:q.num<0:=by
   have h2:¬0≤q:=by grind
   exact Int.not_le.mp fun z=>h2 (Hf.mp z)
  simp only[h,Cs,aJ]
  conv=>lhs;rw[h1]
  have:((q.num.natAbs:Int):Rat)=-(q.num:Rat):=by rw[←iH];exact rE.mpr Kk
  rw[this,bQ,bQ,qT,nE];rfl
 ·have hn:0≤q.num:=Hf.mpr (by grind);simp only[h,k9,aO,aM]
  conv=>lhs;rw[h1]
  have:((q.num.natAbs:Int):Rat)=(q.num:Rat):=rE.mpr Kk;rw[this];rfl
end BF
namespace BF
open Lw
structure Ex where
 nan:Bool
 inf:Bool
 neg:Bool
 size:Int
 power:Int
 deriving DecidableEq
def Ex.kind (u:Ex):Kind:=if u.nan=true then .nan else if u.inf=true then .inf u.neg else .num u.neg (bK u.neg ((u.size:Rat)*two u.power))
def kl:Ex:=⟨true,false,true,0,0⟩
def rK (neg:Bool):Ex:=⟨false,true,neg,0,0⟩
def bN (neg:Bool) (size power:Int):Ex:=⟨false,false,neg,size,power⟩
def ta (t:Fmt) (x:Int):Ex :=
 let neg:=decide (aU t≤x);let X:=x%aU t
 if bE t<X then kl
 else if X=bE t then rK neg
 else if X/2^t.m=0 then bN neg X (az t)
 else bN neg (X-(X/2^t.m-1)*2^t.m) (az t+X/2^t.m-1)
structure Parts (t:Fmt) (x:Nat) (neg:Bool) (f r:Nat):Prop where
 VC:t.neg x=neg
 fld:t.field x=f
 frc:t.frac x=r
 fl:f<2^t.e
 rl:r<2^t.m
 int:(x:Int)=(if neg=true then aU t else 0)+(f*2^t.m+r)
theorem NM {t:Fmt} {x:Nat} {neg:Bool} {f r:Nat} (p:Parts t x neg f r):(f:Int)*2^t.m+r<aU t∧(0:Int)≤f*2^t.m+r:=by
 have h1:f*2^t.m+r<2^(t.e+t.m):=by
  rw[eD];have:=p.fl;have:=p.rl;have:(f+1)*2^t.m≤2^t.e*2^t.m:=vZ _ Kk;rw[v7] at this;omega
 have h2:((f*2^t.m+r:Nat):Int)=(f:Int)*2^t.m+r:=by rw[cJ,eS,bO]
 rw[←h2];unfold aU;rw[←bO];exact⟨j6.mpr h1,Kk⟩
theorem parts (t:Fmt) (x:Nat) (hx:x<2*t.sign):Parts t x (t.neg x) (t.field x) (t.frac x):=by
 refine⟨rfl,rfl,rfl,fK _ (cV _),fK _ (cV _),?_⟩;have e1:x=(if t.neg x=true then t.sign else 0)+(t.field x*2^t.m+t.frac x):=by
  unfold Fmt.neg Fmt.field Fmt.frac;have hs:t.sign=2^t.e*2^t.m:=by unfold Fmt.sign;exact eD 2 t.e t.m
  have hp:0<t.sign:=cV _;have hdiv:x/2^t.m/2^t.e=x/t.sign:=by rw[Nat.div_div_eq_div_mul,eG,←hs]
  have h1:=gE x (2^t.m);have h2:=gE (x/2^t.m) (2^t.e);rw[hdiv] at h2;have oU:x/t.sign<2:=Hl Kk;generalize x/2^t.m%2^t.e=f at *;generalize x%2^t.m=r at *;generalize x/t.sign=s at *;generalize x/2^t.m=y at *;have h3:x=s*t.sign+(f*2^t.m+r):=by
   rw[←h1,←h2,hs,Nat.mul_add,eG (2^t.e) s,eG (2^t.m) (s*2^t.e),wk,eG (2^t.m) f];omega
  rw[h3];have:s=0∨s=1:=by omega
  rcases this with rfl | rfl<;>simp
 have e2:=a7 (Nat.cast:Nat→Int) e1;rw[e2,cJ,cJ,eS,bO];cases t.neg x
 ·rfl
 ·simp only[aJ,dY]
theorem E8 (t:Fmt) (neg:Bool) (X:Nat) (hX:(X:Int)<aU t):Parts t ((if neg=true then t.sign else 0)+X) neg (X/2^t.m) (X%2^t.m):=by
 have Qm:X<t.sign:=by rw[←dY] at hX;omega
 have hs:t.sign=2^t.m*2^t.e:=by unfold Fmt.sign;rw[eD,eG]
 have hp:0<t.sign:=cV _;have hf:X/2^t.m<2^t.e:=Hl (by rw[←hs];exact Qm);refine⟨?_,?_,?_,hf,fK _ (cV _),?_⟩
 ·unfold Fmt.neg;cases neg
  ·simp only[aO,aM,lF,DG Qm];rfl
  ·simp only[aJ];rw[k6,Hm _ hp,DG Qm];rfl
 ·unfold Fmt.field;cases neg
  ·simp only[aO,aM,lF];exact qY hf
  ·simp only[aJ];rw[hs,k6,Nat.add_mul_div_left _ _ (cV _),Hn];exact qY hf
 ·unfold Fmt.frac;cases neg
  ·simp
  ·simp only[aJ];rw[hs,k6,Nat.add_mul_mod_self_left]
 ·rw[cJ];have h:=gE X (2^t.m);have e2:((X/2^t.m:Nat):Int)*2^t.m+((X%2^t.m:Nat):Int)=X:=by
   rw[←bO,←eS,←cJ,eG];rw[h]
  rw[e2];cases neg
  ·rfl
  ·simp only[aJ,dY]
theorem Bv {t:Fmt} {x:Nat} {neg:Bool} {f r:Nat} (p:Parts t x neg f r):(x:Int)%aU t=(f:Int)*2^t.m+r∧decide (aU t≤(x:Int))=neg:=by
 have ⟨h1,h2⟩:=NM p;have h3:=p.int;rw[h3];generalize (f:Int)*2^t.m+r=Y at *;cases neg
 ·simp only[aO,aM];exact⟨by rw[Int.zero_add];exact Hv h2 h1,by simp;omega⟩
 ·simp only[aJ];exact⟨by rw[Int.add_comm,Int.add_emod_right];exact Hv h2 h1,by simp;omega⟩
theorem Qn {t:Fmt} {f r:Nat} (h:r<2^t.m):((f:Int)*2^t.m+r)/2^t.m=f:=by
 have hr:(r:Int)<2^t.m:=by rw[←bO];exact j6.mpr h
 rw[Int.add_comm,Int.add_mul_ediv_right _ _ (jz (aX _)),Int.ediv_eq_zero_of_lt Kk hr];omega
theorem cY (t:Fmt) (x:Nat) (hx:x<2*t.sign):(ta t x).kind=t.kind x:=by
 have p:=parts t x hx;have Bw:=p.VC;have WR:=p.fl;have ZK:=p.rl;have ⟨hX,hN⟩:=Bv p;have hM:=aX t.m;have ZL:=rJ t;unfold ta Fmt.kind;simp only[hX,hN];generalize t.neg x=neg at *;have hr:(t.frac x:Int)<2^t.m:=by rw[←bO];exact j6.mpr ZK
 have hf:(t.field x:Int)<2^t.e:=by rw[←bO];exact j6.mpr WR
 have hfX:=Qn (t:=t) (f:=t.field x) ZK;simp only[hfX];generalize t.field x=f at *;generalize t.frac x=r at *;unfold bE;by_cases h1:f=t.top
 ·have uR:(f:Int)=2^t.e-1:=by rw[h1];exact ZL
  rw[ao h1,uR];by_cases h2:r=0
  ·subst h2;rw[ag Kk,ao Kk,ao rfl];rfl
  ·rw[ao Kk,ag h2];rfl
 ·have uR:(f:Int)<2^t.e-1:=by
   have:(f:Int)≠t.top:=fun q=>h1 (i7 q);omega
  have h3:((f:Int)+1)*2^t.m≤(2^t.e-1)*2^t.m:=i6 Kk Kk;rw[lC] at h3;rw[ag Kk,ag Kk,ag h1];by_cases h2:f=0
  ·subst h2;rw[ao (by rfl),ao rfl];simp only[Ex.kind,bN,aO,aM];have:((((0:Nat):Int)*2^t.m+(r:Int):Int):Rat)=(r:Rat):=by rw[←bu];exact rE.mpr (by simp)
   rw[this];rfl
  ·rw[ag Kk,ag h2];simp only[Ex.kind,bN,aO,aM];have e1:(f:Int)*2^t.m+r-((f:Int)-1)*2^t.m=((2^t.m+r:Nat):Int):=by
    rw[nL,cJ,bO];omega
   have e2:az t+(f:Int)-1=(f:Int)-t.bias-t.m:=by unfold az Fmt.leastExp;omega
   rw[e1,e2,bu];rfl
theorem gj (t:Fmt) (x:Int) (h:0≤x):0≤(ta t x).size∧(ta t x).size<2^(t.m+1):=by
 have hM:=aX t.m;have hS:0<aU t:=aX _;have h0:=pM x (jz hS);have hp:(2:Int)^(t.m+1)=2*2^t.m:=by rw[gz];omega
 unfold ta;dsimp only;generalize x%aU t=X at *;have hd:=Int.mul_ediv_add_emod X (2^t.m);have r0:=Int.emod_nonneg X (Int.ne_of_gt hM);have r1:=Int.emod_lt_of_pos X hM;rw[Int.mul_comm] at hd;rw[hp];split
 ·simp[kl];omega
 ·split
  ·simp[rK];omega
  ·split
   ·next h1=>rw[h1] at hd;simp[bN];omega
   ·next h1=>simp only[bN];rw[nL];omega
end BF
namespace BF
open Lw
theorem dC (t:Fmt):bE t<aU t:=by
 unfold bE aU;rw[jk,nL];have:=aX t.m;omega
def pat (t:Fmt) (neg:Bool) (X:Nat):Nat:=(if neg=true then t.sign else 0)+X
theorem km (t:Fmt) (neg:Bool) (X:Nat):(pat t neg X:Int)=ws t neg X:=by
 unfold pat ws;rw[cJ];cases neg
 ·simp
 ·simp only[aJ,dY];omega
theorem lT (t:Fmt) (neg:Bool) {X:Nat} (h:(X:Int)<aU t):pat t neg X<2*t.sign:=by
 have:=dY t;unfold pat;cases neg<;>simp<;>omega
theorem NN (t:Fmt):0<t.sign:=cV _
theorem jn (t:Fmt) (x:Nat) (hx:x<2*t.sign):x=pat t (t.neg x) (x%t.sign)∧((x%t.sign:Nat):Int)<aU t:=by
 have hp:=NN t;have oU:x/t.sign<2:=Hl Kk;have h1:=gE x t.sign;refine⟨?_,by rw[←dY];exact j6.mpr (fK _ hp)⟩;unfold pat Fmt.neg;generalize x%t.sign=r at *;generalize x/t.sign=s at *;have:s=0∨s=1:=by omega
 rcases this with rfl | rfl
 ·simp;omega
 ·simp;omega
theorem wb {t:Fmt} {neg:Bool} {X:Nat} (h:(X:Int)<aU t):t.neg (pat t neg X)=neg:=(E8 t neg X h).VC
theorem wc {t:Fmt} {neg:Bool} {X:Nat} (h:(X:Int)<aU t):pat t neg X%t.sign=X:=by
 have h2:X<t.sign:=by rw[←dY] at h;omega
 unfold pat;cases neg
 ·simp;exact qY h2
 ·simp;exact qY h2
theorem iE {t:Fmt} {neg:Bool} {X:Nat} (h:(X:Int)<aU t):((pat t neg X:Int))%aU t=X∧decide (aU t≤(pat t neg X:Int))=neg:=by
 have p:=Bv (E8 t neg X h);have e2:((X/2^t.m:Nat):Int)*2^t.m+((X%2^t.m:Nat):Int)=X:=by
  rw[←bO,←eS,←cJ,eG,gE]
 rw[e2] at p;exact p
def gv (t:Fmt) (X:Nat):Nat:=if X/2^t.m=0 then X else (2^t.m+X%2^t.m)*2^(X/2^t.m-1)
theorem ml (t:Fmt) (neg:Bool) {X:Nat} (hX:(X:Int)<bE t):t.kind (pat t neg X)=.num neg (bK neg ((gv t X:Rat)*two (az t))):=by
 have h:=lK hX (dC t);rw[←cY t _ (lT t neg h)];have ⟨h1,h2⟩:=iE (neg:=neg) h;unfold ta;simp only[h1,h2];rw[ag Kk,ag Kk];have hd:((X:Int)/2^t.m)=((X/2^t.m:Nat):Int):=by rw[←bO];rfl
 rw[hd];unfold gv;have hdm:=gE X (2^t.m);by_cases q:X/2^t.m=0
 ·rw[ao q,ao (by rw[q];rfl)];simp only[Ex.kind,bN,aO,aM,bu]
 ·rw[ag q,ag Kk];simp only[Ex.kind,bN,aO,aM];have e1:(X:Int)-(((X/2^t.m:Nat):Int)-1)*2^t.m=((2^t.m+X%2^t.m:Nat):Int):=by
   rw[nL,cJ,bO];have:=a7 (Nat.cast:Nat→Int) hdm;rw[cJ,eS,bO,iL] at this;omega
  have e2:az t+((X/2^t.m:Nat):Int)-1=((X/2^t.m-1:Nat):Int)+az t:=by
   have q':=vC q;generalize X/2^t.m=k at q';omega
  rw[e1,e2,aY,dM,eF,bu];congr 2;grind
theorem rL (t:Fmt) {c j:Nat} (h1:c≤2^(t.m+1)) (h2:0<j→2^t.m≤c):gv t (j*2^t.m+c)=c*2^j:=by
 have hM:0<2^t.m:=cV _;have hp:2^(t.m+1)=2*2^t.m:=by rw[gZ];omega
 unfold gv;generalize 2^t.m=M at *;by_cases q1:c<M
 ·have hj:j=0:=by
   refine qS fun z=>?_;have:=h2 Kk;omega
  subst hj;rw[Nat.zero_mul,lF,ao (DG q1)];simp
 ·by_cases q2:c<2*M
  ·have e1:(j*M+c)/M=j+1:=by
    rw[k6,Nat.add_mul_div_right _ _ hM,show c=(c-M)+M by omega,Hm _ hM,DG Kk];omega
   have e2:(j*M+c)%M=c-M:=by
    rw[k6,Nat.add_mul_mod_self_right,show c=(c-M)+M by omega,Hn,qY Kk];omega
   rw[e1,e2,ag Kk,show M+(c-M)=c by omega,lB]
  ·have e0:c=2*M:=by omega
   subst e0;have e1:(j*M+2*M)/M=j+2:=by rw[←v7,Nat.mul_div_cancel _ hM]
   have e2:(j*M+2*M)%M=0:=by rw[←v7,Nat.mul_mod_left]
   rw[e1,e2,ag Kk,show j+2-1=j+1 by omega,gZ];rw[Nat.add_zero,eG (2^j) 2,←wk,eG M 2]
theorem Bx (t:Fmt) {X Y:Nat} (h:X<Y):gv t X<gv t Y:=by
 have hM:0<2^t.m:=cV _;unfold gv;generalize 2^t.m=M at *;have dx:=gE X M;have dy:=gE Y M;have rx:=fK X hM;have ry:=fK Y hM;have hf:X/M≤Y/M:=Nat.div_le_div_right Kk;by_cases q1:Y/M=0
 ·have:X/M=0:=Nat.le_zero.mp (q1 ▸ hf);rw[ao q1,ao this];exact h
 ·rw[ag q1];by_cases q2:X/M=0
  ·rw[ao q2];rw[q2] at dx;have:1≤2^(Y/M-1):=pP;have h2:(M+Y%M)*1≤(M+Y%M)*2^(Y/M-1):=Hz _ this;omega
  ·rw[ag q2];by_cases q3:X/M=Y/M
   ·rw[q3];rw[q3] at dx;exact DH Kk (cV _)
   ·obtain⟨k,hk⟩:∃k,Y/M-1=(X/M-1)+1+k:=by
     have q2':=vC q2;have ZM:=Nat.lt_of_le_of_ne hf q3;generalize X/M=fx at q2' ZM ⊢;generalize Y/M=fy at ZM ⊢;exact⟨fy-1-(fx-1)-1,Kk⟩
    rw[hk,eD,gZ];have h1:1≤2^k:=pP;have hp:0<2^(X/M-1):=cV _;generalize 2^(X/M-1)=P at *;have a1:(M+X%M)*P<(2*M)*P:=DH Kk hp;have a2:M*(P*2*1)≤(M+Y%M)*(P*2*2^k):=DI Kk (Hz _ h1);have a3:(2*M)*P=M*(P*2*1):=by rw[Nat.mul_one,eG 2 M,wk,eG 2 P]
    omega
theorem uU (t:Fmt) {X Y:Nat}:gv t X<gv t Y↔X<Y:=by
 constructor
 ·intro h;rcases Nat.lt_trichotomy X Y with q | q | q
  ·exact q
  ·subst q;omega
  ·have:=Bx t q;omega
 ·exact Bx t
theorem mG (t:Fmt):gv t 0=0:=by unfold gv;rw[Nat.zero_div,ao rfl]
theorem nR (t:Fmt) {X:Nat}:gv t X=0↔X=0:=by
 constructor
 ·intro h;by_cases q:X=0
  ·exact q
  ·have:=Bx t (show 0<X by omega);rw[mG] at this;omega
 ·rintro rfl;exact mG t
theorem Mx (m:Mode) (neg:Bool) (n:Int):wq m neg n 1=n:=by
 unfold wq;rw[ao (.inl (Int.emod_one n)),Int.ediv_one]
theorem Il (t:Fmt) (h:Ok t) (m:Mode) (neg:Bool) {c j:Nat} (c0:0<c) (c1:c<2^(t.m+1)) (c2:0<j→2^t.m≤c) :
  (t.round m (bK neg ((c:Rat)*two (az t+j))):Int)=ws t neg (if bE t≤(j:Int)*2^t.m+c then (if m.beyond neg=true then bE t else bE t-1) else (j:Int)*2^t.m+c):=by
 have e0:(c:Rat)*two (az t+j)=((c:Int):Rat)/((1:Int):Rat)*two (az t+j):=by
  show _=(c:Rat)/1*_;congr 1;rw[bQ];grind
 have ⟨l1,l2⟩:=uS (n:=(c:Int)) (d:=1) Kk Ke;have e1:((c:Int):Rat)/((1:Int):Rat)=((c:Int):Rat):=by show ((c:Int):Rat)/1=_;rw[bQ];grind
 rw[e1] at l1 l2;have ZN:((c:Int):Rat)<two ((t.m+1:Nat):Int):=by rw[gd,mC,←bO];exact j6.mpr c1
 have b1:lead (c:Int) 1<((t.m+1:Nat):Int):=ej.mp (by grind);have b2:0<j→(t.m:Int)<lead (c:Int) 1+1:=fun q=>by
  have:two (t.m:Int)≤((c:Int):Rat):=by rw[gd,oW,←bO];exact iX.mpr (c2 q)
  exact ej.mp (by grind)
 rw[e0];obtain⟨c',j',hu,_,_,_,_,hc,hr⟩:=jS t h m neg (n:=(c:Int)) (d:=1) (power:=az t+j) Kk Ke;have hj:j'=j:=by
  by_cases q:0<j
  ·have:=b2 q;omega
  ·omega
 subst hj;rw[ao Kk,show az t+(j':Int)-(az t+j')=0 by omega] at hc;rw[Mx] at hc;have FP:c'=c:=by
  have:(c':Int)=c:=by rw[hc];simp
  exact i7 this
 subst FP;exact hr
theorem uV (t:Fmt) (h:Ok t) (m:Mode) (neg:Bool) {X:Nat} (hX:(X:Int)<bE t):t.put m neg (bK neg ((gv t X:Rat)*two (az t)))=pat t neg X:=by
 have hM:0<2^t.m:=cV _;have dx:=gE X (2^t.m);have rx:=fK X hM;have hp:2^(t.m+1)=2*2^t.m:=by rw[gZ];omega
 unfold Fmt.put;by_cases h0:X=0
 ·subst h0;have:bK neg ((gv t 0:Rat)*two (az t))=0:=by rw[dG,mG];exact bF _
  rw[ao this];unfold Fmt.zero Fmt.pack pat;simp
 ·have g0:gv t X≠0:=fun q=>h0 ((nR t).mp q);have:¬bK neg ((gv t X:Rat)*two (az t))=0:=by
   rw[dG,ji];rintro(q | q)
   ·exact g0 (Hj.mp q)
   ·exact jm _ q
  rw[ag this];refine i7 ?_;show ((t.round m _:Nat):Int)=((pat t neg X:Nat):Int);rw[km];obtain⟨c,j,hc0,ZN,ZO,KU⟩:∃c j:Nat,0<c∧c<2^(t.m+1)∧(0<j→2^t.m≤c)∧X=j*2^t.m+c:=by
   by_cases q:X/2^t.m=0
   ·rw[q] at dx;exact⟨X,0,Kk,Kk,Kk,Kk⟩
   ·refine⟨2^t.m+X%2^t.m,X/2^t.m-1,Kk,Kk,Kk,?_⟩;obtain⟨k,hk⟩:∃k,X/2^t.m=k+1:=⟨X/2^t.m-1,(Kc (vC q)).symm⟩;rw[hk] at dx ⊢;rw[Nat.mul_add,eG] at dx;rw[lB];omega
  have e1:(gv t X:Rat)*two (az t)=(c:Rat)*two (az t+j):=by
   rw[KU,rL t Kk ZO,eF,aY,dM];grind
  rw[e1,Il t h m neg hc0 ZN ZO];have e2:(j:Int)*2^t.m+c=X:=by rw[KU,cJ,eS,bO]
  rw[e2,ag Kk]
theorem gQ (t:Fmt) (neg:Bool) {X:Nat} (h:(X:Int)<aU t) :
  t.kind (pat t neg X)=if (X:Int)<bE t then .num neg (bK neg ((gv t X:Rat)*two (az t))) else if (X:Int)=bE t then .inf neg else .nan:=by
 split
 ·next q=>exact ml t neg q
 ·next q =>
  rw[←cY t _ (lT t neg h)];have ⟨h1,h2⟩:=iE (neg:=neg) h;unfold ta;dsimp only;rw[h1,h2];by_cases q2:(X:Int)=bE t
  ·rw[ag Kk,ao q2,ao q2];rfl
  ·rw[ao Kk,ag q2];rfl
theorem F9 (t:Fmt) (h:Ok t) (m:Mode) (neg:Bool) (q:Rat):∃s X,t.put m neg q=pat t s X∧(X:Int)≤bE t:=by
 have hi:=gi t h;obtain⟨sg,n,d,hn,hd,e,_⟩:=o4 q;by_cases h0:q=0
 ·refine⟨neg,0,?_,Kk⟩;unfold Fmt.put;rw[ao h0];unfold Fmt.zero Fmt.pack pat;simp
 ·have uX:n≠0:=fun z=>h0 (by
   rw[e,z,dG];show (0:Rat)/d*two 0=0;rw[bQ,bF,bF])
  obtain⟨c,j,_,_,_,_,_,_,hr⟩:=jS t h m sg (power:=0) (show 0<n by omega) hd;rw[←e] at hr;have key:∃X:Nat,(X:Int)=(if bE t≤(j:Int)*2^t.m+c then (if m.beyond sg=true then bE t else bE t-1) else (j:Int)*2^t.m+c)∧(X:Int)≤bE t:=by
   have hj:0≤(j:Int)*2^t.m:=fH Kk (bo (aX _));split
   ·split
    ·exact⟨(bE t).toNat,Kk,Kk⟩
    ·exact⟨(bE t-1).toNat,Kk,Kk⟩
   ·exact⟨((j:Int)*2^t.m+c).toNat,Kk,Kk⟩
  obtain⟨X,hX,Qm⟩:=key;refine⟨sg,X,?_,Qm⟩;unfold Fmt.put;rw[ag h0];refine i7 ?_;show ((t.round m q:Nat):Int)=_;rw[hr,←hX,←km];rfl
end BF
namespace BF
open Lw
theorem fJ {u:Ex} (h:u.nan=true):u.kind=.nan:=by unfold Ex.kind;rw[ao h]
theorem cU {u:Ex} (h:u.nan=false) (h2:u.inf=true):u.kind=.inf u.neg:=by unfold Ex.kind;rw[h,ag Ke,ao h2]
theorem bH {u:Ex} (h:u.nan=false) (h2:u.inf=false):u.kind=.num u.neg (bK u.neg ((u.size:Rat)*two u.power)):=by
 unfold Ex.kind;rw[h,ag Ke,h2,ag Ke]
theorem TF (t:Fmt) (h:Ok t) (m:Mode) {u:Ex} (h1:u.nan=false) (h2:u.inf=false) (h3:0≤u.size):(t.ofKind m u.kind:Int)=Bs t m u.neg u.size 1 u.power:=by
 rw[bH h1 h2,←wa t h m u.neg h3 Ke];show ((t.put m u.neg _:Nat):Int)=_;have e:(u.size:Rat)/((1:Int):Rat)=u.size:=by show (u.size:Rat)/1=_;rw[bQ];grind
 rw[e]
theorem kZ (t:Fmt) (m:Mode) (s r:Bool) {q:Rat} (h:q≠0):t.put m s q=t.put m r q:=by
 unfold Fmt.put;rw[ag h,ag h]
def cnt (u:Ex) (p:Int):Int:=eJ u.neg (u.size*2^(u.power-p).toNat)
def cG (m:Mode) (u v:Ex):Ex :=
 if (u.nan||v.nan)=true then kl
 else if (u.inf&&v.inf&&(u.neg != v.neg))=true then kl
 else if (u.inf||v.inf)=true then (if u.inf=true then u else v)
 else
  let p:=min u.power v.power;let total:=cnt u p+cnt v p
  if total=0 then bN (if u.neg=v.neg then u.neg else m.isDown) 0 p else bN (decide (total<0)) total.natAbs p
theorem o5 {u:Ex} {p:Int} (h:p≤u.power):((cnt u p:Int):Rat)*two p=bK u.neg ((u.size:Rat)*two u.power):=by
 have e:((u.size*2^(u.power-p).toNat:Int):Rat)*two p=(u.size:Rat)*two u.power:=by
  rw[bh,←cX (show 0≤u.power-p by omega),bV,←aY,show u.power-p+p=u.power by omega]
 unfold cnt eJ bK;cases u.neg
 ·simp only[aO,aM];exact e
 ·simp only[aJ];rw[iH,qT,e]
theorem lh {z p:Int} (h:z≠0):(bN (decide (z<0)) z.natAbs p).kind=.num (decide (z<0)) ((z:Rat)*two p):=by
 unfold bN;rw[bH rfl rfl];congr 1;unfold bK;by_cases q:z<0
 ·simp only[q,Cs,aJ];rw[←qT,←iH];congr 2;omega
 ·simp only[q,k9,aO,aM];congr 2;omega
theorem By {s r:Bool} {a b:Rat} (ha:0≤a) (hb:0≤b) (h:bK s a+bK r b=0) (e:s=r):a=0∧b=0:=by
 subst e;unfold bK at h;cases s
 ·simp only[aO,aM] at h;constructor<;>grind
 ·simp only[aJ] at h;constructor<;>grind
theorem yP {u:Ex} (h:0≤u.size):0≤(u.size:Rat)*two u.power:=pO (Go.mpr h) (cC (two_pos _))
theorem qf (t:Fmt) (m:Mode) {u v:Ex} (hu:0≤u.size) (hv:0≤v.size):t.ofKind m (cG m u v).kind=t.addKinds m u.kind v.kind:=by
 unfold cG;cases eO:u.nan
 ·cases iM:v.nan
  ·cases eU:u.inf
   ·cases iN:v.inf
    ·simp only[eT,aO,aM,DJ,ic];rw[bH eO eU,bH iM iN];have e1:=o5 (u:=u) (p:=min u.power v.power) Kk;have e2:=o5 (u:=v) (p:=min u.power v.power) Kk;have e3:((cnt u (min u.power v.power)+cnt v (min u.power v.power):Int):Rat)*two (min u.power v.power)=bK u.neg ((u.size:Rat)*two u.power)+bK v.neg ((v.size:Rat)*two v.power):=by
      rw[dI,pN,e1,e2]
     generalize hp:min u.power v.power=p at *;generalize hz:cnt u p+cnt v p=z at *;have nu:=yP hu;have nv:=yP hv;simp only[Fmt.addKinds];by_cases q:z=0
     ·rw[ao q];have s0:bK u.neg ((u.size:Rat)*two u.power)+bK v.neg ((v.size:Rat)*two v.power)=0:=by rw[←e3,q];exact bF _
      rw[s0];unfold bN;rw[bH rfl rfl];have z0:∀s:Bool,bK s (((0:Int):Rat)*two p)=0:=fun s=>by rw[dG];exact bF _
      simp only[z0];show t.put m _ 0=t.put m _ 0;unfold Fmt.put;rw[ao rfl,ao rfl];congr 1;unfold zeroSign;by_cases hs:u.neg=v.neg
      ·have ⟨a,b⟩:=By nu nv s0 hs;rw[ao hs,ao ⟨dG.mpr a,dG.mpr b,hs⟩]
      ·rw[ag hs,ag fun z=>hs z.2.2]
     ·rw[ag q,lh q,e3];refine kZ t m _ _ ?_;rw[←e3,Ne,ji];rintro(w | w)
      ·exact q (jH.mp w)
      ·exact jm _ w
    ·simp only[eT,aO,aM,ic,lL,aJ];rw[bH eO eU,cU iM iN];rfl
   ·cases iN:v.inf
    ·simp only[eT,aO,aM,uD,ic,Bool.true_or,aJ];rw[bH iM iN,cU eO eU];rfl
    ·rw[cU eO eU,cU iM iN];simp only[eT,aO,aM,DJ,eX,aJ,Fmt.addKinds];cases hsu:u.neg<;>cases hsv:v.neg<;>simp[kl,Ex.kind,Fmt.ofKind,eO,eU,hsu]
  ·rw[fJ iM];simp only[Bool.or_true,aJ];show t.nan=_;cases eU:u.inf
   ·rw[bH eO eU];rfl
   ·rw[cU eO eU];rfl
 ·rw[fJ eO];simp only[Bool.true_or,aJ];rfl
def bC (u:Ex):Bool:=!u.nan&&(!u.inf&&decide (u.size=0))
def gu (u v:Ex):Ex :=
 if (u.nan||v.nan)=true then kl
 else if (u.inf||v.inf)=true then (if (bC u||bC v)=true then kl else rK (u.neg != v.neg))
 else bN (u.neg != v.neg) (u.size*v.size) (u.power+v.power)
theorem val_zero {u:Ex}:bK u.neg ((u.size:Rat)*two u.power)=0↔u.size=0:=by
 rw[dG,ji];constructor
 ·rintro(w | w)
  ·exact jH.mp w
  ·exact absurd w (jm _)
 ·intro h;rw[h];exact .inl rfl
theorem NO (s r:Bool) (a b:Rat):bK s a*bK r b=bK (s != r) (a*b):=by
 unfold bK;cases s<;>cases r<;>simp<;>grind
theorem nS (u v:Ex):(gu u v).kind=timesKinds u.kind v.kind:=by
 unfold gu bC;cases eO:u.nan
 ·cases iM:v.nan
  ·cases eU:u.inf
   ·cases iN:v.inf
    ·rw[bH eO eU,bH iM iN];simp only[eT,aO,aM,timesKinds];unfold bN;rw[bH rfl rfl,NO];congr 2;rw[bh,aY];grind
    ·rw[bH eO eU,cU iM iN];simp only[eT,lL,aO,aM,aJ,timesKinds,fS,vB,ic,eX,HB,val_zero];by_cases h:u.size=0
     ·simp[h,kl,Ex.kind]
     ·simp[h,rK,Ex.kind]
   ·cases iN:v.inf
    ·rw[bH iM iN,cU eO eU];simp only[eT,HB,aO,aM,aJ,timesKinds,fS,vB,ic,eX,lL,val_zero];by_cases h:v.size=0
     ·simp[h,kl,Ex.kind]
     ·simp[h,rK,Ex.kind]
    ·rw[cU eO eU,cU iM iN];simp[rK,Ex.kind,timesKinds]
  ·rw[fJ iM];simp only[Bool.or_true,aJ];cases eU:u.inf
   ·rw[bH eO eU];rfl
   ·rw[cU eO eU];rfl
 ·rw[fJ eO];rfl
theorem WS {u:Ex} (h:0≤u.size) {v:Ex} (h':0≤v.size):0≤(gu u v).size:=by
 unfold gu;split
 ·decide
 ·split
  ·split<;>exact oG 0
  ·exact fH h h'
theorem KW {m:Mode} {u:Ex} (h:0≤u.size) {v:Ex} (h':0≤v.size):0≤(cG m u v).size:=by
 unfold cG;split
 ·decide
 ·split
  ·decide
  ·split
   ·split<;>assumption
   ·dsimp only;split
    ·exact oG 0
    ·simp only[bN];omega
def Bz (u:Ex):Ex:=⟨u.nan,u.inf,!u.neg,u.size,u.power⟩
theorem NP (u:Ex):(Bz u).kind=turned u.kind:=by
 unfold Bz Ex.kind turned bK;cases u.nan<;>cases u.inf<;>cases u.neg<;>simp
def fY (u:Ex) (k:Int):Ex:=⟨u.nan,u.inf,u.neg,u.size,u.power+k⟩
theorem NQ (t:Fmt) (m:Mode) (u:Ex) (k:Int):t.ofKind m (fY u k).kind=(match u.kind with
 | .nan=>t.nan
 | .inf s=>t.inf s
 | .num s q=>t.put m s (q*two k)):=by
 cases hn:u.nan
 ·cases hi:u.inf
  ·rw[bH hn hi];show t.ofKind m (fY u k).kind=t.put m u.neg _;rw[bH (u:=fY u k) hn hi];show t.put m u.neg _=_;rw[mF];show t.put m u.neg (bK u.neg ((u.size:Rat)*two (u.power+k)))=_;rw[aY,bV]
  ·rw[cU hn hi,cU (u:=fY u k) hn hi];rfl
 ·rw[fJ hn,fJ (u:=fY u k) hn];rfl
theorem add_eq (t:Fmt) (m:Mode) {x y:Nat} (hx:x<2*t.sign) (hy:y<2*t.sign):t.ofKind m (cG m (ta t x) (ta t y)).kind=t.add m x y:=by
 rw[qf t m (gj t x Kk).1 (gj t y Kk).1,cY t x hx,cY t y hy];rfl
theorem sub_eq (t:Fmt) (m:Mode) {x y:Nat} (hx:x<2*t.sign) (hy:y<2*t.sign):t.ofKind m (cG m (ta t x) (Bz (ta t y))).kind=t.sub m x y:=by
 rw[qf t m (gj t x Kk).1 (show 0≤(Bz (ta t y)).size from (gj t y Kk).1),NP,cY t x hx,cY t y hy];rfl
theorem mul_eq (t:Fmt) (m:Mode) {x y:Nat} (hx:x<2*t.sign) (hy:y<2*t.sign):t.ofKind m (gu (ta t x) (ta t y)).kind=t.mul m x y:=by
 rw[nS,cY t x hx,cY t y hy];rfl
theorem TH (t:Fmt) (m:Mode) {x y z:Nat} (hx:x<2*t.sign) (hy:y<2*t.sign) (hz:z<2*t.sign):t.ofKind m (cG m (gu (ta t x) (ta t y)) (ta t z)).kind=t.fma m x y z:=by
 rw[qf t m (WS (gj t x Kk).1 (gj t y Kk).1) (gj t z Kk).1,nS,cY t x hx,cY t y hy,cY t z hz];rfl
theorem NR (t:Fmt) (m:Mode) {x:Nat} (k:Int) (hx:x<2*t.sign):t.ofKind m (fY (ta t x) k).kind=t.scale m x k:=by
 rw[NQ,cY t x hx];rfl
theorem Qo (t u:Fmt) (m:Mode) {x:Nat} (hx:x<2*t.sign):u.ofKind m (ta t x).kind=t.to u m x:=by
 rw[cY t x hx];rfl
end BF
namespace BF
open Lw
def Repr (t:Fmt) (q:Rat) (X:Nat):Prop:=(X:Int)<bE t∧q=(gv t X:Rat)*two (az t)
theorem BA (t:Fmt) (h:Ok t) {c j:Nat} (h1:c≤2^(t.m+1)) (h2:0<j→2^t.m≤c) (h3:(c:Rat)*two (az t+j)<two (t.bias+1)):Repr t ((c:Rat)*two (az t+j)) (j*2^t.m+c):=by
 have k:=sY t h (c:=c) (j:=j) rfl h1 h2;have hc:((j*2^t.m+c:Nat):Int)=(j:Int)*2^t.m+c:=by rw[cJ,eS,bO]
 refine⟨?_,?_⟩
 ·rw[hc];have:¬bE t≤(j:Int)*2^t.m+c:=fun q=>by have:=k.mpr q;grind
  omega
 ·rw[rL t h1 h2,eF,aY,dM];grind
theorem BB (t:Fmt) (h:Ok t) {c:Nat} {v:Int} (h1:c<2^(t.m+1)) (hv:az t≤v) (h3:(c:Rat)*two v<two (t.bias+1)):∃X,Repr t ((c:Rat)*two v) X:=by
 by_cases h0:c=0
 ·subst h0;refine⟨0,by have:=gi t h;omega,?_⟩;rw[mG];show (0:Rat)*_=0*_;rw[bF,bF]
 ·have a1:=Ak h0;have a2:=@vO c;have hk:c.log2≤t.m:=by
   have:=(Nat.pow_lt_pow_iff_right (a:=2) Ke).mp (Nat.lt_of_le_of_lt a1 h1);omega
  obtain⟨s,hs⟩:∃s:Nat,(s:Int)=min ((t.m:Int)-c.log2) (v-az t):=⟨(min ((t.m:Int)-c.log2) (v-az t)).toNat,Kk⟩;obtain⟨j,hj⟩:=aA (show 0≤v-s-az t by omega);have e:(c:Rat)*two v=((c*2^s:Nat):Rat)*two (az t+j):=by
   rw[eF,←dM,bV,←aY,show (s:Int)+(az t+j)=v by omega]
  rw[e] at h3 ⊢;refine⟨_,BA t h ?_ ?_ h3⟩
  ·have:c*2^s<2^(c.log2+1)*2^s:=DH a2 (cV _);rw[←eD] at this;exact my (cg this (fA Ke Kk))
  ·intro q;have:2^c.log2*2^s≤c*2^s:=vZ _ a1;rw[←eD] at this;exact bZ (fA Ke Kk) this
theorem mn (t:Fmt) (h:Ok t) {c:Nat} (h1:c≤2^(t.m+1)):∃X,Repr t (c:Rat) X:=by
 have hb:=Br t h;have hl:az t≤0:=by unfold az Fmt.leastExp;have:=h.mb;omega
 have top:((2^(t.m+1):Nat):Rat)<two (t.bias+1):=by rw[←dM];exact As (by have:=h.mb;omega)
 by_cases q:c<2^(t.m+1)
 ·have e:(c:Rat)=(c:Rat)*two 0:=by rw[dg,cI]
  rw[e];refine BB t h q hl ?_;rw[dg,cI];have:=dQ.mpr h1;grind
 ·have q':c=2^(t.m+1):=by omega
  have e:(c:Rat)=((2^t.m:Nat):Rat)*two 1:=by rw[q',←dM,←dM,←aY];congr 1
  rw[e];refine BB t h (Nat.pow_lt_pow_right Ke Kk) Kk ?_;rw[←e,q'];exact top
theorem kN {t:Fmt} (h:Ok t) {q:Rat} {X:Nat} (r:Repr t q X) (m:Mode) (neg:Bool):t.put m neg (bK neg q)=pat t neg X:=by
 rw[r.2];exact uV t h m neg r.1
theorem mH {t:Fmt} {q:Rat} {X:Nat} (r:Repr t q X) (neg:Bool):t.kind (pat t neg X)=.num neg (bK neg q):=by
 rw[r.2];exact ml t neg r.1
theorem qg {t:Fmt} {q:Rat} {X:Nat} (r:Repr t q X):0≤q:=by
 rw[r.2];exact pO DK (cC (two_pos _))
def nT (t:Fmt):Int:=aU t+bE t+2^(t.m-1)
theorem dN (t:Fmt):(t.nan:Int)=nT t:=by
 unfold Fmt.nan nT bE;rw[kM,rJ,bO];simp
theorem E9 (t:Fmt) (h:Ok t):(2:Int)^t.m=2*2^(t.m-1):=by
 obtain⟨k,hk⟩:∃k,t.m=k+1:=⟨t.m-1,by have:=h.m1;omega⟩;rw[hk,gz,lB,iL]
theorem Qp (t:Fmt):bE t+2^t.m=aU t:=by
 unfold bE aU;rw[jk,nL];omega
theorem Im (t:Fmt) (h:Ok t):∃X:Nat,t.nan=pat t true X∧(X:Int)<aU t∧bE t<X:=by
 have h1:=gi t h;have h2:=E9 t h;have h3:=Qp t;have h4:=aX (t.m-1);refine⟨(bE t+2^(t.m-1)).toNat,i7 ?_,Kk,Kk⟩;show (t.nan:Int)=((pat t true _:Nat):Int);rw[km,dN];unfold nT ws;simp only[aJ];omega
theorem wd (t:Fmt) (h:Ok t) (neg:Bool):t.inf neg=pat t neg (bE t).toNat:=by
 refine i7 ?_;show (t.inf neg:Int)=((pat t neg _:Nat):Int);have:=gi t h;rw[km,xT];unfold ws;cases neg<;>simp<;>omega
theorem jT (t:Fmt) (neg:Bool):t.zero neg=pat t neg 0:=by unfold Fmt.zero Fmt.pack pat;simp
theorem iF (t:Fmt) (neg:Bool) {X:Nat} (h:(X:Int)<aU t):t.isNan (pat t neg X)=decide (bE t<X):=by
 unfold Fmt.isNan;rw[gQ t neg h];split
 ·next q=>simp[Kind.isNan];omega
 ·split
  ·next q=>simp[Kind.isNan];omega
  ·next q=>simp[Kind.isNan];omega
def Out (t:Fmt) (x:Nat):Prop:=∃s X,x=pat t s X∧((X:Int)≤bE t∨x=t.nan)
theorem eA {t:Fmt} (h:Ok t) {x:Nat} (o:Out t x):x<2*t.sign:=by
 obtain⟨s,X,rfl,q⟩:=o;rcases q with q | q
 ·exact lT t s (qZ q (dC t))
 ·obtain⟨Y,e,hY,_⟩:=Im t h;rw[q,e];exact lT t _ hY
theorem Qq {t:Fmt} {x:Nat} (o:Out t x) (n:t.isNan x=true):x=t.nan:=by
 obtain⟨s,X,rfl,q⟩:=o;rcases q with q | q
 ·rw[iF t s (qZ q (dC t))] at n;have:=eV n;omega
 ·exact q
theorem lp (t:Fmt) (h:Ok t) (m:Mode) (neg:Bool) (q:Rat):Out t (t.put m neg q):=by
 obtain⟨s,X,e,hX⟩:=F9 t h m neg q;exact⟨s,X,e,.inl hX⟩
theorem gf (t:Fmt) (h:Ok t):Out t t.nan:=by
 obtain⟨X,e,_⟩:=Im t h;exact⟨_,X,e,.inr rfl⟩
theorem lr (t:Fmt) (h:Ok t) (neg:Bool):Out t (t.inf neg):=⟨neg,_,wd t h neg,.inl (by have:=gi t h;omega)⟩
theorem o7 (t:Fmt) (h:Ok t) (neg:Bool):Out t (t.zero neg):=⟨neg,0,jT t neg,.inl (by have:=gi t h;omega)⟩
theorem ft (t:Fmt) (h:Ok t) (m:Mode) (k:Kind):Out t (t.ofKind m k):=by
 cases k with
 | nan=>exact gf t h
 | inf s=>exact lr t h s
 | num s q=>exact lp t h m s q
theorem fM (t:Fmt) (h:Ok t) (m:Mode) (a b:Kind):Out t (t.addKinds m a b):=by
 cases a<;>cases b<;>simp only[Fmt.addKinds]<;>(try split)<;>first | exact gf t h | exact lr t h _ | exact lp t h m _ _
def Qr (t:Fmt) (m:Mode) (u v:Ex):Int :=
 if (u.nan||v.nan||(u.inf&&v.inf)||(bC u&&bC v))=true then nT t
 else if (u.inf||bC v)=true then ws t (u.neg != v.neg) (bE t)
 else if v.inf=true then ws t (u.neg != v.neg) 0
 else Bs t m (u.neg != v.neg) u.size v.size (u.power-v.power)
theorem lU (t:Fmt) (neg:Bool):(t.inf neg:Int)=ws t neg (bE t):=by rw[xT];unfold ws;cases neg<;>simp;omega
theorem o8 (t:Fmt) (neg:Bool):(t.zero neg:Int)=ws t neg 0:=by rw[E7];unfold ws;cases neg<;>simp
theorem Io (s r:Bool) (a b:Rat):bK s a/bK r b=bK (s != r) (a/b):=by
 have hi:∀c:Rat,(-c)⁻¹=-(c⁻¹):=fun c=>by
  by_cases h:c=0
  ·subst h;rw[Rat.neg_zero,Rat.inv_zero,Rat.neg_zero]
  ·exact pR (by rw[qT,Rat.mul_neg,nE];exact F8 c h)
 unfold bK;cases s<;>cases r<;>simp[bQ,hi]<;>grind
theorem div_eq (t:Fmt) (h:Ok t) (m:Mode) {x y:Nat} (hx:x<2*t.sign) (hy:y<2*t.sign):(t.div m x y:Int)=Qr t m (ta t x) (ta t y):=by
 have su:=(gj t x Kk).1;have sv:=(gj t y Kk).1;unfold Fmt.div;rw[←cY t x hx,←cY t y hy];generalize ta t x=u at *;generalize ta t y=v at *;unfold Qr bC;cases eO:u.nan
 ·cases iM:v.nan
  ·cases eU:u.inf
   ·cases iN:v.inf
    ·rw[bH eO eU,bH iM iN];simp only[eT,lL,aO,aM,fS,DJ,eX,val_zero];by_cases qv:v.size=0
     ·by_cases qu:u.size=0
      ·simp[qu,qv,dN]
      ·simp[qu,qv,lU]
     ·simp only[qv,k9,uD,aO,aM];have Qs:0<v.size:=by omega
      rw[←wa t h m _ su Qs,Io];congr 3;rw[bQ,Bq,bQ];have:(two v.power)⁻¹=two (-v.power):=pR (by rw[fc];exact oX _);rw[this,show u.power-v.power=u.power+-v.power by omega,aY];grind
    ·rw[bH eO eU,cU iM iN];simp[o8]
   ·cases iN:v.inf
    ·rw[bH iM iN,cU eO eU];simp[lU]
    ·rw[cU eO eU,cU iM iN];simp[dN]
  ·rw[fJ iM];cases eU:u.inf
   ·rw[bH eO eU];simp[dN]
   ·rw[cU eO eU];simp[dN]
 ·rw[fJ eO];simp[dN]
def rM (u v:Ex):Ex :=
 let p:=min u.power v.power;let n:=(cnt u p).natAbs;let d:=(cnt v p).natAbs;let left:=(n:Int)-d*wq .near false n d
 if left<0 then bN (!u.neg) (-left) p else bN u.neg left p
theorem o9 {u:Ex} {p:Int} (h:p≤u.power) (hu:0≤u.size):(((cnt u p).natAbs:Int):Rat)*two p=(u.size:Rat)*two u.power∧(((cnt u p).natAbs:Int)=u.size*2^(u.power-p).toNat):=by
 have e0:((cnt u p).natAbs:Int)=u.size*2^(u.power-p).toNat:=by
  unfold cnt;exact Bu _ (fH hu (bo (aX _)))
 refine⟨?_,e0⟩;rw[e0,bh,←cX (show 0≤u.power-p by omega),bV,←aY,show u.power-p+p=u.power by omega]
theorem Qt (neg ZQ:Bool) (n d:Int):wq .near neg n d=wq .near ZQ n d:=rfl
theorem KY (t:Fmt) {u v:Ex} (hu:0≤u.size) (hv:0<v.size) :
  t.ofKind .near (rM u v).kind=t.put .near u.neg (bK u.neg ((u.size:Rat)*two u.power)-(nearestEven (bK u.neg ((u.size:Rat)*two u.power)/bK v.neg ((v.size:Rat)*two v.power)):Rat)*bK v.neg ((v.size:Rat)*two v.power)):=by
 unfold rM;dsimp only;have ⟨a1,a2⟩:=o9 (u:=u) (p:=min u.power v.power) Kk hu;have ⟨b1,b2⟩:=o9 (u:=v) (p:=min u.power v.power) Kk (Int.le_of_lt hv);have dp:0<((cnt v (min u.power v.power)).natAbs:Int):=by rw[b2];exact Int.mul_pos hv (aX _)
 generalize min u.power v.power=p at *;have np:0≤((cnt u p).natAbs:Int):=by omega
 generalize ((cnt u p).natAbs:Int)=n at *;generalize ((cnt v p).natAbs:Int)=d at *;rw[←a1,←b1];have e1:bK u.neg ((n:Rat)*two p)/bK v.neg ((d:Rat)*two p)=bK (u.neg != v.neg) ((n:Rat)/d):=by
  rw[Io];congr 1;rw[bQ,Bq,bQ];have:=F8 (two p) (jm p);grind
 have e2:nearestEven (bK (u.neg != v.neg) ((n:Rat)/d))=eJ (u.neg != v.neg) (wq .near false n d):=by
  have:=rH .near (u.neg != v.neg) dp np;rw[Qt _ false] at this;exact this
 rw[e1,e2];generalize wq .near false n d=W at *;have e3:bK u.neg ((n:Rat)*two p)-((eJ (u.neg != v.neg) W:Int):Rat)*bK v.neg ((d:Rat)*two p)=bK u.neg (((n-d*W:Int):Rat)*two p):=by
  rw[nD,bh];unfold bK eJ;cases u.neg<;>cases v.neg<;>simp<;>grind
 rw[e3];generalize hl:n-d*W=l at *;split
 ·next q =>
  unfold bN;rw[bH rfl rfl];have e4:bK (!u.neg) (((-l:Int):Rat)*two p)=bK u.neg ((l:Rat)*two p):=by
   rw[iH];unfold bK;cases u.neg<;>simp<;>grind
  show t.put .near (!u.neg) (bK (!u.neg) (((-l:Int):Rat)*two p))=_;rw[e4];refine kZ t _ _ _ ?_;rw[Ne,dG,ji];rintro(w | w)
  ·have:=jH.mp w;omega
  ·exact jm _ w
 ·unfold bN;rw[bH rfl rfl];rfl
end BF
namespace BF
open Lw
theorem rest_eq (t:Fmt) (h:Ok t) {x y:Nat} (hx:x<2*t.sign) (hy:y<2*t.sign):t.remainder x y =
  (if ((ta t x).nan||(ta t y).nan||(ta t x).inf||bC (ta t y))=true then t.nan else if (ta t y).inf=true then x else t.ofKind .near (rM (ta t x) (ta t y)).kind):=by
 have su:=(gj t x Kk).1;have sv:=(gj t y Kk).1;have kx:=cY t x hx;unfold Fmt.remainder;rw[←kx,←cY t y hy];generalize hu:ta t x=u at *;generalize ta t y=v at *;unfold bC;cases eO:u.nan
 ·cases iM:v.nan
  ·cases eU:u.inf
   ·cases iN:v.inf
    ·rw[bH eO eU,bH iM iN];simp only[eT,lL,aO,aM,fS,eX,val_zero,bj];by_cases qv:v.size=0
     ·rw[ao qv,ao qv]
     ·rw[ag qv,ag qv,KY t su Kk]
    ·rw[bH eO eU,cU iM iN];simp only[eT,lL,aO,aM,fS,vB,ic,uD,aJ];have ⟨e,hX⟩:=jn t x hx;generalize t.neg x=sg at *;generalize x%t.sign=X at *;subst e;have hk:=gQ t sg hX;rw[←kx,bH eO eU] at hk;split at hk
     ·next q =>
      injection hk with e1 e2
      rw[e1] at e2 ⊢;rw[e2];exact uV t h _ _ q
     ·split at hk<;>cases hk
   ·cases iN:v.inf
    ·rw[bH iM iN,cU eO eU];simp
    ·rw[cU eO eU,cU iM iN];simp
  ·rw[fJ iM];cases eU:u.inf
   ·rw[bH eO eU];simp
   ·rw[cU eO eU];simp
 ·rw[fJ eO];simp
theorem BC {a b:Int} (k:Int):(a:Rat)*two k<(b:Rat)*two k↔a<b:=by rw[cq,mC]
theorem Ip (s:Bool) (g:Nat) (k:Int):bK s ((g:Rat)*two k)=((eJ s (g:Int):Int):Rat)*two k:=by
 unfold bK eJ;cases s
 ·simp only[aO,aM,bu]
 ·simp only[aJ,iH,bu,qT]
theorem TJ {s r:Bool} {X Y gX gY:Nat} (h:gX<gY↔X<Y) (h':gY<gX↔Y<X) (z1:gX=0↔X=0) (z2:gY=0↔Y=0):eJ s (gX:Int)<eJ r (gY:Int)↔eJ s (X:Int)<eJ r (Y:Int):=by
 unfold eJ;cases s<;>cases r<;>simp<;>omega
theorem qh (t:Fmt) (h:Ok t) (s r:Bool) {X Y:Nat} (hX:(X:Int)≤bE t) (hY:(Y:Int)≤bE t):t.below (pat t s X) (pat t r Y)=decide (eJ s X<eJ r Y):=by
 have hs:=dC t;have hi:=gi t h;unfold Fmt.below;rw[gQ t s Kk,gQ t r Kk];by_cases qx:(X:Int)<bE t
 ·rw[ao qx];by_cases qy:(Y:Int)<bE t
  ·rw[ao qy];simp only[belowKinds];rw[Ip,Ip];congr 1;rw[BC,TJ (uU t) (uU t) (nR t) (nR t)]
  ·rw[ag qy,ao Kk];simp only[belowKinds];cases r<;>cases s<;>simp[eJ]<;>omega
 ·rw[ag qx,ao Kk];by_cases qy:(Y:Int)<bE t
  ·rw[ao qy];simp only[belowKinds];cases r<;>cases s<;>simp[eJ]<;>omega
  ·rw[ag qy,ao Kk];simp only[belowKinds];cases r<;>cases s<;>simp[eJ]<;>omega
def place (t:Fmt) (x:Int):Int:=if bE t<x%aU t then bE t+1 else if aU t≤x then -(x%aU t)-1 else x%aU t
theorem qi (t:Fmt) (s:Bool) {X:Nat} (h:(X:Int)<aU t):place t (pat t s X)=if bE t<X then bE t+1 else if s=true then -(X:Int)-1 else X:=by
 have ⟨h1,h2⟩:=iE (neg:=s) h;unfold place;rw[h1];cases s
 ·have:=lO h2;rw[ag this];rfl
 ·have:=eV h2;rw[ao this];rfl
theorem mI (t:Fmt) (h:Ok t) {x y:Nat} (hx:x<2*t.sign) (hy:y<2*t.sign):t.before x y=decide (place t x<place t y):=by
 have ⟨ex,hX⟩:=jn t x hx;have ⟨ey,hY⟩:=jn t y hy;generalize t.neg x=s at *;generalize x%t.sign=X at *;generalize t.neg y=r at *;generalize y%t.sign=Y at *;subst ex ey;rw[qi t s hX,qi t r hY];unfold Fmt.before Fmt.equal;rw[iF t s hX,iF t r hY];have hi:=gi t h;by_cases qx:bE t<(X:Int)
 ·simp only[qx,Cs,aJ];split
  ·simp
  ·cases r<;>simp<;>omega
 ·simp only[qx,k9,aO,aM,fS,eX];by_cases qy:bE t<(Y:Int)
  ·simp only[qy,Cs,aJ];cases s<;>simp<;>omega
  ·simp only[qy,k9,aO,aM,fS,eX];rw[qh t h s r Kk Kk,qh t h r s Kk Kk,wb hX,wb hY];cases s<;>cases r<;>simp[eJ]<;>grind
theorem KZ (t:Fmt) (h:Ok t) (s:Bool) {X:Nat} (hX:(X:Int)<aU t):t.canon (pat t s X)=if bE t<(X:Int) then t.nan else pat t s X:=by
 unfold Fmt.canon;rw[gQ t s hX];by_cases q:(X:Int)<bE t
 ·rw[ao q,ag Kk];exact uV t h _ _ q
 ·rw[ag q];by_cases q2:(X:Int)=bE t
  ·rw[ao q2,ag Kk];show t.inf s=_;rw[wd t h];congr 1;omega
  ·rw[ag q2,ao Kk];rfl
def cp (t:Fmt) (x:Int):Bool:=decide (bE t<x%aU t)
theorem jb (t:Fmt) {x:Nat} (hx:x<2*t.sign):cp t x=t.isNan x:=by
 have ⟨ex,hX⟩:=jn t x hx;generalize t.neg x=s at *;generalize x%t.sign=X at *;subst ex;rw[iF t s hX];unfold cp;rw[(iE (neg:=s) hX).1]
theorem sZ (t:Fmt) (h:Ok t) {x:Nat} (hx:x<2*t.sign):t.canon x=if cp t x=true then t.nan else x:=by
 have e:=jb t hx;have ⟨ex,hX⟩:=jn t x hx;generalize t.neg x=s at *;generalize x%t.sign=X at *;subst ex;rw[e,KZ t h s hX,iF t s hX];by_cases q:bE t<(X:Int)<;>simp[q]
theorem uY {t:Fmt} {x:Int} (h:cp t x=true):place t x=bE t+1:=by
 unfold place cp at *;rw[ao (eV h)]
theorem BD {t:Fmt} {x:Int} (hs:0<aU t) (h:cp t x=false):place t x≤bE t:=by
 unfold place cp at *;have h1:=lO h;rw[ag h1];have:=pM x (jz hs);split<;>omega
theorem BE (t:Fmt) (h:Ok t) {x y:Nat} (hx:x<2*t.sign) (hy:y<2*t.sign):t.min x y =
  (if (cp t x||cp t y)=true then (if cp t x=false then x else if cp t y=true then t.nan else y) else if place t x≤place t y then x else y):=by
 unfold Fmt.min;rw[mI t h hy hx,sZ t h hx,sZ t h hy];have hs:0<aU t:=aX _;cases qx:cp t x
 ·have a:=BD hs qx;cases qy:cp t y
  ·simp;by_cases q:place t x≤place t y
   ·rw[ao q,ag Kk]
   ·rw[ag q,ao Kk]
  ·have b:=uY qy;simp;omega
 ·have a:=uY qx;cases qy:cp t y
  ·have b:=BD hs qy;simp;omega
  ·have b:=uY qy;simp
theorem yR (t:Fmt) (h:Ok t) {x y:Nat} (hx:x<2*t.sign) (hy:y<2*t.sign):t.max x y =
  (if (cp t x||cp t y)=true then (if cp t x=false then x else if cp t y=true then t.nan else y) else if place t y≤place t x then x else y):=by
 unfold Fmt.max;rw[mI t h hx hy,sZ t h hx,sZ t h hy,←jb t hx,←jb t hy];cases qx:cp t x
 ·cases qy:cp t y
  ·simp;by_cases q:place t y≤place t x
   ·rw[ao q,ag Kk]
   ·rw[ag q,ao Kk]
  ·simp
 ·cases qy:cp t y<;>simp
def ij (t:Fmt) (x:Int) (neg:Bool):Int:=if cp t x=true then nT t else ws t neg (x%aU t)
theorem uZ (t:Fmt) (x:Nat):((x%t.sign:Nat):Int)=(x:Int)%aU t:=by rw[←dY];rfl
theorem abs_eq (t:Fmt) {x:Nat} (hx:x<2*t.sign):(t.abs x:Int)=ij t x false:=by
 unfold Fmt.abs ij;rw[jb t hx];cases t.isNan x
 ·simp only[aO,aM,uZ];unfold ws;simp
 ·simp only[aJ,dN]
theorem Iq (t:Fmt) {x:Nat} (hx:x<2*t.sign):decide (aU t≤(x:Int))=t.neg x:=(Bv (parts t x hx)).2
theorem negate_eq (t:Fmt) {x:Nat} (hx:x<2*t.sign):(t.negate x:Int)=ij t x (!decide (aU t≤(x:Int))):=by
 unfold Fmt.negate ij;rw[jb t hx,Iq t hx];cases t.isNan x
 ·simp only[aO,aM];have ⟨ex,hX⟩:=jn t x hx;have e:=iE (neg:=t.neg x) hX;rw[←ex] at e;have hs:=dY t;rw[e.1];cases q:t.neg x
  ·rw[q] at ex;unfold pat at ex;simp only[aO,aM,lF] at ex;unfold ws;simp;omega
  ·rw[q] at ex;unfold pat at ex;simp only[aJ] at ex;unfold ws;simp;omega
 ·simp only[aJ,dN]
theorem K0 (t:Fmt) {x y:Nat} (hx:x<2*t.sign) (hy:y<2*t.sign):(t.signOf x y:Int)=ij t x (decide (aU t≤(y:Int))&&!cp t y):=by
 unfold Fmt.signOf ij;rw[jb t hx,jb t hy,Iq t hy];cases t.isNan x
 ·simp only[aO,aM,cJ,uZ];unfold ws;have:=dY t;cases t.neg y<;>cases t.isNan y<;>simp[this]
 ·simp only[aJ,dN]
def eC (t:Fmt) (x:Int):Bool:=decide (x%aU t=0)
def Fb (t:Fmt) (how:Nat) (x y:Int):Int :=
 if how=0∧(cp t x=true∨cp t y=true) then 2
 else if how=0∧eC t x=true∧eC t y=true then 0
 else if place t x=place t y then 0
 else if place t x<place t y then -1 else 1
theorem TK (t:Fmt) (h:Ok t) {x y:Nat} {how:Nat} (hh:how≤1) (hx:x<2*t.sign) (hy:y<2*t.sign):NumCalls.cmpOf t how x y=some (Fb t how x y):=by
 have hi:=gi t h;by_cases q:how=0
 ·subst q;unfold NumCalls.cmpOf Fb;simp only[true_and];rw[jb t hx,jb t hy];have ⟨ex,hX⟩:=jn t x hx;have ⟨ey,hY⟩:=jn t y hy;generalize t.neg x=s at *;generalize x%t.sign=X at *;generalize t.neg y=r at *;generalize y%t.sign=Y at *;subst ex ey;rw[qi t s hX,qi t r hY,iF t s hX,iF t r hY];unfold eC;rw[(iE (neg:=s) hX).1,(iE (neg:=r) hY).1];by_cases qx:bE t<(X:Int)
  ·simp[qx]
  ·by_cases qy:bE t<(Y:Int)
   ·simp[qy]
   ·simp only[qx,qy,k9,aO,or_self,aM];rw[qh t h s r Kk Kk,qh t h r s Kk Kk];simp only[bj];congr 1;cases s<;>cases r<;>simp[eJ]<;>grind
 ·have q:how=1:=by omega
  subst q;unfold NumCalls.cmpOf Fb;rw[mI t h hx hy,mI t h hy hx];simp;grind
def dq (m:Mode) (u:Ex):Int:=if 0≤u.power then u.size*2^u.power.toNat else wq m u.neg u.size (2^(-u.power).toNat)
theorem mJ (m:Mode) {u:Ex} (hu:0≤u.size):wholeBy m (bK u.neg ((u.size:Rat)*two u.power))=eJ u.neg (dq m u)∧0≤dq m u:=by
 unfold dq;split
 ·next q =>
  have n0:0≤u.size*2^u.power.toNat:=fH hu (bo (aX _));have e:(u.size:Rat)*two u.power=((u.size*2^u.power.toNat:Int):Rat)/((1:Int):Rat):=by
   rw[bh,←cX q];show _=_/(1:Rat);rw[bQ];grind
  rw[e,rH m u.neg Ke n0,Mx];exact⟨rfl,n0⟩
 ·next q =>
  have e:(u.size:Rat)*two u.power=(u.size:Rat)/((2^(-u.power).toNat:Int):Rat):=by
   rw[←cX (show 0≤-u.power by omega),lg];congr 2;omega
  rw[e,rH m u.neg (aX _) hu];exact⟨rfl,uT (aX _) hu⟩
theorem kn (s:Bool) (z:Int):bK s (z:Rat)=((eJ s z:Int):Rat):=by
 unfold bK eJ;cases s<;>simp[iH]
theorem Ga (t:Fmt) (m:Mode) {u:Ex} (hu:0≤u.size) (h2:u.size<2^(t.m+1)) (hp:u.power<0):dq m u≤2^(t.m+1):=by
 unfold dq;rw[ag Kk];refine F7 (aX _) ?_;refine dZ.mp fun z=>?_;rw[Hk (fb.mpr (aX _)),←bh,mC] at z;have:(2:Int)^(t.m+1)*1≤2^(t.m+1)*2^(-u.power).toNat:=qD (by have:=aX (-u.power).toNat;omega) (bo (aX _));omega
theorem yT (t:Fmt) (h:Ok t) (m:Mode) {x:Nat} (hx:x<2*t.sign):t.toWhole m x =
  (if ((ta t x).nan||(ta t x).inf)=true then t.ofKind m (ta t x).kind else t.ofKind m (bN (ta t x).neg (dq m (ta t x)) 0).kind):=by
 have ⟨su,ZS⟩:=gj t x Kk;have kx:=cY t x hx;unfold Fmt.toWhole;rw[←kx];have ⟨ex,hX⟩:=jn t x hx;have hk:=gQ t (t.neg x) hX;rw[←ex,←kx] at hk;generalize hu:ta t x=u at *;cases eO:u.nan
 ·cases eU:u.inf
  ·have ⟨w1,w2⟩:=mJ m su;rw[bH eO eU];simp only[eT,aO,aM];rw[w1];unfold bN;rw[bH rfl rfl];show t.put .near u.neg _=t.put m u.neg (bK u.neg ((dq m u:Rat)*two 0));rw[dg,cI,←kn];obtain⟨X,r⟩:∃X,Repr t (dq m u:Rat) X:=by
    by_cases hp:0≤u.power
    ·rw[bH eO eU] at hk;split at hk
     ·next q =>
      injection hk with e1 e2
      refine⟨_,q,?_⟩;have e3:(dq m u:Rat)=(u.size:Rat)*two u.power:=by unfold dq;rw[ao hp,bh,cX hp]
      rw[e3];rw[e1] at e2;unfold bK at e2;cases q2:t.neg x
      ·rw[q2] at e2;simpa using e2
      ·rw[q2] at e2;simp only[aJ] at e2;grind
     ·split at hk<;>cases hk
    ·have b:=Ga t m su ZS Kk;have e4:(dq m u:Rat)=(((dq m u).toNat:Nat):Rat):=by rw[←bu];exact rE.mpr Kk
     rw[e4];refine mn t h ?_;have:=bO (t.m+1);omega
   rw[kN h r .near,kN h r m]
  ·rw[cU eO eU];simp[Fmt.ofKind]
 ·rw[fJ eO];simp[Fmt.ofKind]
theorem toInt_eq (t:Fmt) (m:Mode) (bits:Nat) (sign:Bool) {x:Nat} (hx:x<2*t.sign):t.toInt m bits sign x =
  (if (ta t x).nan=true then 0 else if (ta t x).inf=true then (if (ta t x).neg=true then least bits sign else most bits sign) else held bits sign (eJ (ta t x).neg (dq m (ta t x)))):=by
 have ⟨su,ZS⟩:=gj t x Kk;unfold Fmt.toInt;rw[←cY t x hx];generalize ta t x=u at *;cases eO:u.nan
 ·cases eU:u.inf
  ·rw[bH eO eU];simp[(mJ m su).1]
  ·rw[cU eO eU];simp
 ·rw[fJ eO];simp
def gJ (z:Int):Ex:=bN (decide (z<0)) z.natAbs 0
theorem K1 (z:Int):(gJ z).kind=.num (decide (z<0)) (z:Rat):=by
 unfold gJ;by_cases h:z=0
 ·subst h;unfold bN;rw[bH rfl rfl];simp only[bK];show Kind.num false ((0:Rat)*two 0)=Kind.num false 0;rw[bF]
 ·rw[lh h,dg,cI]
theorem Fc (t:Fmt) (m:Mode) (z:Int):t.ofKind m (gJ z).kind=t.ofInt m z:=by
 rw[K1];show t.put m _ _=t.put m _ _;by_cases h:z=0
 ·subst h;rfl
 ·exact kZ t m _ _ fun q=>h (jH.mp q)
end BF
namespace BF
open Lw
theorem we {a b:Nat}:a≤b↔a*a≤b*b:=by
 constructor
 ·intro h;exact DI h h
 ·intro h;refine DL fun q=>?_;have:=Kd q (my q) Kk;omega
theorem ot (n:Nat):∀(k lo:Nat),lo*lo≤n→n<(lo+2^k)*(lo+2^k)→rootNat n k lo*rootNat n k lo≤n∧n<(rootNat n k lo+1)*(rootNat n k lo+1)
 | 0,lo,h1,h2=>⟨h1,h2⟩
 | k+1,lo,h1,h2=>by
  unfold rootNat;split
  ·next q =>
   refine ot n k _ q ?_;rw[show lo+2^k+2^k=lo+2^(k+1) by rw[gZ];omega];exact h2
  ·next q=>exact ot n k _ h1 Kk
theorem nU (n:Nat):∃r,rootNat n (Nat.log2 n/2+2) 0=r∧r*r≤n∧n<(r+1)*(r+1):=by
 refine⟨_,rfl,ot n _ 0 Kk ?_⟩;have h:=@vO n;rw[lF,←eD];exact cg h (fA Ke Kk)
theorem BG {n g:Nat} (hg:0<g):n<((g+n/g)/2+1)*((g+n/g)/2+1):=by
 have h1:=Nat.lt_mul_div_succ n hg;generalize n/g=k at *;generalize hh:(g+k)/2=h;have h2:g+(k+1)≤2*(h+1):=by omega
 have h3:(g+(k+1))*(g+(k+1))≤2*(h+1)*(2*(h+1)):=DI h2 h2;have h4:4*(g*(k+1))≤(g+(k+1))*(g+(k+1)):=by
  generalize k+1=b;rcases Nat.le_total g b with q | q
  ·obtain⟨d,rfl⟩:=Nat.le.dest q;have:(g+(g+d))*(g+(g+d))=4*(g*(g+d))+d*d:=by grind
   omega
  ·obtain⟨d,rfl⟩:=Nat.le.dest q;have:(b+d+b)*(b+d+b)=4*((b+d)*b)+d*d:=by grind
   omega
 have h5:2*(h+1)*(2*(h+1))=4*((h+1)*(h+1)):=by grind
 omega
theorem Gb {n g:Nat} (hg:0<g) (h:g≤(g+n/g)/2):g*g≤n:=by
 have h1:=Nat.mul_div_le n g;have h2:g≤n/g:=by generalize n/g=k at *;omega
 have h3:g*g≤g*(n/g):=Hz _ h2;omega
theorem BH {n r s:Nat} (h1:r*r≤n) (h2:n<(r+1)*(r+1)) (h3:s*s≤n) (h4:n<(s+1)*(s+1)):r=s:=by
 have a:¬r+1≤s:=fun q=>by have:=we.mp q;omega
 have b:¬s+1≤r:=fun q=>by have:=we.mp q;omega
 omega
theorem DW (m:Mode) {x v:Rat} (hv:0≤v) (H:∀a:Nat,((a:Rat)/2≤x↔(a:Rat)/2*((a:Rat)/2)≤v)∧((a:Rat)/2=x↔(a:Rat)/2*((a:Rat)/2)=v)) :
  wholeBy m x=(rootUnits m v:Int):=by
 unfold rootUnits;obtain⟨r,er,r1,r2⟩:=nU v.floor.toNat;simp only[er];have vf:0≤v.floor:=zv.mpr hv;have R1:((r*r:Nat):Rat)≤v:=by
  have:((r*r:Nat):Int)≤v.floor:=by omega
  have:=zv.mp this;rw[bu] at this;exact this
 have R2:v<(((r+1)*(r+1):Nat):Rat):=by
  have:v.floor<(((r+1)*(r+1):Nat):Int):=by omega
  have:=FR.mp this;rw[bu] at this;exact this
 have c0:((2*r:Nat):Rat)/2=(r:Rat):=by
  rw[eF];show (2:Rat)*r/2=r;rw[fc];exact Rat.mul_div_cancel Ke
 have c1:((2*(r+1):Nat):Rat)/2=(r:Rat)+1:=by
  rw[eF,xD];show (2:Rat)*(r+1)/2=r+1;rw[fc];exact Rat.mul_div_cancel Ke
 have ch:((2*r+1:Nat):Rat)/2=(r:Rat)+1/2:=by
  rw[xD,eF];show ((2:Rat)*r+1)/2=r+1/2;grind
 have A:=H (2*r);have B:=H (2*(r+1));have C:=H (2*r+1);rw[c0] at A;rw[c1] at B;rw[ch] at C;have rr:((r*r:Nat):Rat)=(r:Rat)*r:=eF r r;have ss:(((r+1)*(r+1):Nat):Rat)=((r:Rat)+1)*(r+1):=by rw[eF,xD];rfl
 rw[rr] at R1 ⊢;rw[ss] at R2;rw[ch];have x1:(r:Rat)≤x:=A.1.mpr R1;have x2:x<(r:Rat)+1:=by
  refine Rat.not_le.mp fun q=>?_;have:=B.1.mp q;grind
 have hr0:(0:Rat)≤(r:Rat):=DK;have x0:(0:Rat)≤x:=by grind
 have cr:(((r:Nat):Int):Rat)=(r:Rat):=bu r;have NS:((((r+1:Nat):Int)):Rat)=(r:Rat)+1:=by rw[bu,xD];rfl
 have fl:x.floor=(r:Int):=gL (by rw[cr];exact x1) (by rw[cr];exact x2);have eqv:(r:Rat)*r=v↔(r:Rat)=x:=A.2.symm;have hle:((r:Rat)+1/2)*((r:Rat)+1/2)≤v↔(r:Rat)+1/2≤x:=C.1.symm;have heq:((r:Rat)+1/2)*((r:Rat)+1/2)=v↔(r:Rat)+1/2=x:=C.2.symm;have oU:((r:Rat)+1/2)*((r:Rat)+1/2)<v↔(r:Rat)+1/2<x:=by
  rw[Rat.lt_iff_le_and_ne,Rat.lt_iff_le_and_ne,hle,Ne,heq]
 simp only[eqv,oU,heq,hle];have hf:(x+1/2).floor=if (r:Rat)+1/2≤x then ((r+1:Nat):Int) else (r:Int):=by
  split
  ·next q=>exact gL (by rw[NS];grind) (by rw[NS];grind)
  ·next q=>exact gL (by rw[cr];grind) (by rw[cr];grind)
 have hc:x.ceil=if (r:Rat)=x then (r:Int) else ((r+1:Nat):Int):=by
  split
  ·next q=>exact rG (by rw[cr];grind) (by rw[cr];grind)
  ·next q=>exact rG (by rw[NS];grind) (by rw[NS];grind)
 by_cases e0:(r:Rat)=x
 ·rw[ao e0];cases m
  ·simp only[wholeBy,nearestEven,hf];rw[ag (show ¬(r:Rat)+1/2≤x by grind)];rw[ag];intro z;have z1:=z.1;rw[cr] at z1;grind
  ·simp only[wholeBy,fl]
  ·simp only[wholeBy,hc,ao e0]
  ·simp only[wholeBy,ao x0,fl]
  ·simp only[wholeBy,nearestAway,ao x0,hf];rw[ag (by grind)]
 ·rw[ag e0];cases m
  ·simp only[wholeBy,nearestEven,hf];by_cases q:(r:Rat)+1/2≤x
   ·rw[ao q];by_cases q2:(r:Rat)+1/2=x
    ·have t1:((((r+1:Nat):Int)):Rat)=x+1/2:=by rw[NS];grind
     have t2:¬(r:Rat)+1/2<x:=by grind
     by_cases par:r%2=1
     ·rw[ag (fun z=>z.2 Kk),ao (Or.inr ⟨q2,par⟩)]
     ·rw[ao ⟨t1,Kk⟩,ag (by rintro(z | z);exact t2 z;exact par z.2)];omega
    ·have t1:¬((((r+1:Nat):Int)):Rat)=x+1/2:=by rw[NS];grind
     have t2:(r:Rat)+1/2<x:=by grind
     simp only[t1,false_and,aM,t2,true_or,aJ]
   ·rw[ag q];have t1:¬(((r:Nat):Int):Rat)=x+1/2:=by rw[cr];grind
    have t2:¬(r:Rat)+1/2<x:=by grind
    have t3:¬(r:Rat)+1/2=x:=by grind
    simp only[t1,false_and,aM,t2,t3,or_self]
  ·simp only[wholeBy,fl]
  ·simp only[wholeBy,hc,ag e0]
  ·simp only[wholeBy,ao x0,fl]
  ·simp only[wholeBy,nearestAway,ao x0,hf];split<;>rfl
theorem K2 (t:Fmt) (h:Ok t) (m:Mode) {S N r more:Nat} {power shift w:Int} (hS:0<S) (hp:az t≤power) (hq:(S:Rat)*two power<two (t.bias+1))
  (hw:power-shift=2*w) (hs:2*(t.m:Int)+6≤shift) (hN:(N:Int)=S*2^shift.toNat)
  (r1:r*r≤N) (r2:N<(r+1)*(r+1)) (hm:more=if r*r=N then 0 else 1) :
  t.put m false (((2*r+more:Nat):Rat)*two (w-1))=t.make false (rootUnits m ((S:Rat)*two power/two (2*(Int.fdiv (log2 ((S:Rat)*two power)) 2-t.m)))) (Int.fdiv (log2 ((S:Rat)*two power)) 2-t.m):=by
 have ZT:more≤1:=by rw[hm];split<;>omega
 have uK:(S:Rat)*two power=(N:Rat)*two (2*w):=by
  have:(N:Rat)=(S:Rat)*two shift:=by
   rw[←bu,hN,bh,←cX Kk,bu]
  rw[this,bV,←aY];congr 2;omega
 generalize ZU:(S:Rat)*two power=q at *;have key:∀A:Nat,(A≤r↔A*A≤N):=fun A=>by
  constructor
  ·intro z;exact bZ (we.mp z) r1
  ·intro z;refine DL fun z2=>?_;have:=we.mp (show r+1≤A from z2);omega
 have ZV:∀A:Nat,(2*A=2*r+more↔A*A=N):=fun A=>by
  constructor
  ·intro z;have:more=0∧A=r:=by omega
   obtain⟨z1,rfl⟩:=this;rw[z1] at hm;split at hm
   ·assumption
   ·omega
  ·intro z;have:A=r:=BH (n:=N) Kk (by have:=we.mp (show A+1≤A+1 by omega);have:A*A<(A+1)*(A+1):=(by grind);omega) r1 r2;subst this;rw[hm,ao z];omega
 have r3:2^(t.m+3)≤r:=by
  rw[key];have h1:(2:Int)^(2*t.m+6)≤2^shift.toNat:=gP Kk;have h2:1*(2:Int)^shift.toNat≤S*2^shift.toNat:=i6 Kk (bo (aX _));rw[←eD,show t.m+3+(t.m+3)=2*t.m+6 by omega];have:=bO (2*t.m+6);omega
 generalize hQ:((2*r+more:Nat):Rat)*two (w-1)=Q;have hQ2:Q*2=((2*r+more:Nat):Rat)*two w:=by
  rw[←hQ,bV,show two (w-1)*2=two w by rw[←jC,←aY];congr 1;omega]
 have pw:∀k:Int,w≤k→(two k≤Q↔two (2*k)≤q):=fun k hk=>by
  obtain⟨a,ha⟩:=aA (show 0≤k-w by omega);have e1:two k=((2^a:Nat):Rat)*two w:=by rw[←dM,←aY];congr 1;omega
  have e2:two (2*k)=((2^a*2^a:Nat):Rat)*two (2*w):=by rw[←eD,←dM,←aY];congr 1;omega
  rw[e2,uK,cB,dQ,←key];have:two k≤Q↔two k*2≤Q*2:=by constructor<;>intro z<;>grind
  rw[this,hQ2,e1,show ((2^a:Nat):Rat)*two w*2=((2*2^a:Nat):Rat)*two w by rw[eF];show _=2*_*_;grind];rw[cB,dQ];omega
 have hr0:0<r:=cg (cV _) r3;have ZW:0<Q:=by
  rw[←hQ];exact fF (rg.mpr Kk) (two_pos _)
 have VE:0<q:=by rw[←ZU];exact fF (rg.mpr hS) (two_pos _)
 have ⟨l1,l2⟩:=g7 ZW;have lw:w+(t.m:Int)+3≤log2 Q:=by
  have h1:two (w+t.m+3)≤Q:=by
   rw[pw _ Kk,uK];have e2:two (2*(w+t.m+3))=((2^(t.m+3)*2^(t.m+3):Nat):Rat)*two (2*w):=by rw[←eD,←dM,←aY];congr 1;omega
   rw[e2,cB,dQ,←key];exact r3
  have:=ej.mp (show two (w+t.m+3)<two (log2 Q+1) by grind);omega
 generalize hL:log2 Q=L at *;have b1:=(pw L Kk).mp l1;have b2:q<two (2*(L+1)):=Rat.not_le.mp fun z=>by have:=(pw (L+1) Kk).mpr z;grind
 have ⟨g1,g2⟩:=g7 VE;have lq:log2 q=2*L∨log2 q=2*L+1:=by
  have z1:=ej.mp (show two (2*L)<two (log2 q+1) by grind);have z2:=ej.mp (show two (log2 q)<two (2*(L+1)) by grind);omega
 have hfd:Int.fdiv (log2 q) 2=L:=by
  rw[EK _ Ke];omega
 rw[hfd];have hle:az t=1-t.bias-t.m:=by unfold az Fmt.leastExp;omega
 have aeZ:az t≤log2 q:=by
  have:two (az t)≤q:=by
   rw[←ZU];have z1:two (az t)≤two power:=gr hp;have z2:(1:Rat)*two power≤(S:Rat)*two power:=(cB _).mpr (by have:=dQ.mpr (show 1≤S from hS);exact this);rw[jh] at z2;grind
  have:=ej.mp (show two (az t)<two (log2 q+1) by grind);omega
 have adg:log2 q<t.bias+1:=ej.mp (by grind);have hmb:=h.mb;have ae0:=h.m1;have uQ:t.unit Q=L-t.m:=by rw[oZ,hL];omega
 have ZX:wholeBy m (Q/two (L-t.m))=(rootUnits m (q/two (2*(L-t.m))):Int):=by
  refine DW m ?_ fun a=>?_
  ·rw[lg];exact pO (cC VE) (cC (two_pos _))
  ·obtain⟨e,he⟩:=aA (show 0≤L-t.m-w-1 by omega);have x1:Q/two (L-t.m)=((2*r+more:Nat):Rat)*two (-((e:Int)+2)):=by
    rw[←hQ,lg,bV,←aY];congr 2;omega
   have v1:q/two (2*(L-t.m))=(N:Rat)*two (-(2*((e:Int)+1))):=by
    rw[uK,lg,bV,←aY];congr 2;omega
   have a1:(a:Rat)/2=((2*(a*2^e):Nat):Rat)*two (-((e:Int)+2)):=by
    rw[eF,eF,←dM,show (a:Rat)/2=(a:Rat)*two (-1) from by rw[←lg,jC]];have:two (-1)=2*two (e:Int)*two (-((e:Int)+2)):=by
     rw[←jC,←aY,←aY];congr 1;omega
    rw[this];show _=(2:Rat)*_*_;grind
   have a2:(a:Rat)/2*((a:Rat)/2)=((a*2^e*(a*2^e):Nat):Rat)*two (-(2*((e:Int)+1))):=by
    rw[eF,eF,←dM,show (a:Rat)/2=(a:Rat)*two (-1) from by rw[←lg,jC]];have:two (-1)*two (-1)=two (e:Int)*two (e:Int)*two (-(2*((e:Int)+1))):=by
     rw[←aY,←aY,←aY];congr 1;omega
    have h3:(a:Rat)*two (-1)*((a:Rat)*two (-1))=(a:Rat)*a*(two (-1)*two (-1)):=by grind
    rw[h3,this];grind
   rw[x1,v1,a2,a1];rw[cB,cB,fq,fq,dQ,dQ,HD,HD];generalize a*2^e=A;rw[←key,←ZV];refine⟨?_,Iff.rfl⟩;omega
 unfold Fmt.put Fmt.round;rw[ag (by grind)];simp only[uQ,ZX];rw[show ((rootUnits m (q/two (2*(L-t.m))):Int)).natAbs=rootUnits m (q/two (2*(L-t.m))) from rfl];have VF:decide (Q<0)=false:=bS (by grind);rw[VF];rw[ag];intro z;obtain⟨neg,n,d,n0,d0,eQ,BI⟩:=o4 Q;have hn:neg=false:=by rw[BI (by grind)];exact VF
 subst hn;have uX:0<n:=by
  refine xE.mpr ⟨n0,fun z=>?_⟩;rw[←z] at eQ;have:Q=0:=by rw[eQ,dG];show (0:Rat)/d*two 0=0;rw[bQ,bF,bF]
  grind
 obtain⟨c,j,_,e1,e2,c1,c2,_,_⟩:=jS t h m false (power:=0) uX d0;rw[←eQ] at e1 e2;rw[uQ] at e1;rw[←e1,ZX] at e2;have hc:rootUnits m (q/two (2*(L-t.m)))=c:=by
  have:eJ false (c:Int)=c:=rfl;rw[this] at e2;exact i7 e2
 rw[hc] at z;have c3:(c:Rat)≤two ((t.m+1:Nat):Int):=by rw[dM];exact dQ.mpr c1
 have c4:(c:Rat)*two (L-t.m)≤two ((t.m+1:Nat):Int)*two (L-t.m):=(cB _).mpr c3;rw[←aY] at c4;have c5:=As (show ((t.m+1:Nat):Int)+(L-t.m)<t.bias+1 by omega);grind
end BF
namespace BF
open Lw
theorem Qu (t:Fmt) (X:Nat):∃c j:Nat,c<2^(t.m+1)∧(0<j→2^t.m≤c)∧X=j*2^t.m+c:=by
 have hM:0<2^t.m:=cV _;have dx:=gE X (2^t.m);have rx:=fK X hM;have hp:2^(t.m+1)=2*2^t.m:=by rw[gZ];omega
 by_cases q:X/2^t.m=0
 ·rw[q] at dx;exact⟨X,0,Kk,Kk,Kk⟩
 ·refine⟨2^t.m+X%2^t.m,X/2^t.m-1,Kk,Kk,?_⟩;obtain⟨k,hk⟩:∃k,X/2^t.m=k+1:=⟨X/2^t.m-1,(Kc (vC q)).symm⟩;rw[hk] at dx ⊢;rw[Nat.mul_add,eG] at dx;rw[lB];omega
theorem Ir {t:Fmt} (h:Ok t) {q:Rat} {X:Nat} (r:Repr t q X):q<two (t.bias+1):=by
 obtain⟨c,j,h1,h2,e⟩:=Qu t X;have k:=sY t h (c:=c) (j:=j) rfl Kk h2;have e1:q=(c:Rat)*two (az t+j):=by
  rw[r.2,e,rL t Kk h2,eF,aY,dM];grind
 rw[e1];refine Rat.not_le.mp fun z=>?_;have:=k.mp z;have r1:=r.1;rw[e,cJ,eS,bO] at r1;omega
theorem tf (t:Fmt) {x:Nat} (hx:x<2*t.sign) :
  (∃s X,x=pat t s X∧(X:Int)<aU t∧bE t<X∧ta t x=kl)∨(∃s,x=t.inf s∧ta t x=rK s) ∨
   (∃s X,x=pat t s X∧(X:Int)<bE t∧∃S p,ta t x=bN s S p∧az t≤p∧0≤S∧Repr t ((S:Rat)*two p) X∧(S=0↔X=0)):=by
 have ⟨ex,hX⟩:=jn t x hx;have hk:=cY t x hx;have ⟨s0,_⟩:=gj t x Kk;generalize t.neg x=s at *;generalize x%t.sign=X at *;subst ex;have ⟨h1,h2⟩:=iE (neg:=s) hX;rw[gQ t s hX] at hk;unfold ta at hk s0 ⊢;dsimp only at hk s0 ⊢;rw[h1,h2] at hk s0 ⊢;by_cases q1:bE t<(X:Int)
 ·rw[ao q1] at *;exact .inl ⟨s,X,rfl,hX,q1,rfl⟩
 ·rw[ag q1] at hk s0 ⊢;by_cases q2:(X:Int)=bE t
  ·rw[ao q2] at hk s0 ⊢;refine .inr (.inl ⟨s,?_,rfl⟩);refine i7 ?_;show ((pat t s X:Nat):Int)=(t.inf s:Int);rw[km,lU,q2]
  ·rw[ag q2] at hk s0 ⊢;have q3:(X:Int)<bE t:=by omega
   rw[ao q3] at hk;refine .inr (.inr ⟨s,X,rfl,q3,?_⟩);have fin:∀S p,(bN s S p).kind=Kind.num s (bK s ((gv t X:Rat)*two (az t)))→0≤S→Repr t ((S:Rat)*two p) X∧(S=0↔X=0):=fun S p e hS=>by
    unfold bN at e;rw[bH rfl rfl] at e;injection e with _ e2
    have e3:(S:Rat)*two p=(gv t X:Rat)*two (az t):=by
     unfold bK at e2;cases s
     ·simpa using e2
     ·simp only[aJ] at e2;grind
    refine⟨⟨q3,e3⟩,?_⟩;rw[←nR t];constructor
    ·intro z;rw[z] at e3;have:(gv t X:Rat)*two (az t)=0:=by rw[←e3];exact bF _
     rcases ji.mp this with w | w
     ·exact Hj.mp w
     ·exact absurd w (jm _)
    ·intro z;rw[z] at e3;have:(S:Rat)*two p=0:=by rw[e3];exact bF _
     rcases ji.mp this with w | w
     ·exact jH.mp w
     ·exact absurd w (jm _)
   by_cases q4:(X:Int)/2^t.m=0
   ·rw[ao q4] at hk s0 ⊢;exact⟨_,_,rfl,oG _,s0,fin _ _ hk s0⟩
   ·rw[ag q4] at hk s0 ⊢;have:0≤(X:Int)/2^t.m:=f9 Kk (bo (aX _));exact⟨_,_,rfl,Kk,s0,fin _ _ hk s0⟩
def lG (n:Nat):Nat:=rootNat n (Nat.log2 n/2+2) 0
def kO (t:Fmt) (u:Ex):Int:=2*t.m+6+u.power%2
def ik (t:Fmt) (u:Ex):Nat:=(u.size*2^(kO t u).toNat).toNat
def jU (n:Nat):Nat:=if lG n*lG n=n then 0 else 1
theorem wg (t:Fmt) (h:Ok t) (m:Mode) {x:Nat} (hx:x<2*t.sign):t.root m x =
  if bC (ta t x)=true then x else if ((ta t x).nan||(ta t x).neg)=true then t.nan else if (ta t x).inf=true then x
  else t.put m false (((2*lG (ik t (ta t x))+jU (ik t (ta t x)):Nat):Rat)*two (((ta t x).power-kO t (ta t x))/2-1)):=by
 unfold Fmt.root;rw[←cY t x hx];rcases tf t hx with ⟨s,X,_,_,_,e⟩ | ⟨s,e1,e⟩ | ⟨s,X,e1,hX,S,p,e,hp,hS,r,z⟩
 ·rw[e];rfl
 ·rw[e];cases s
  ·simp[rK,Ex.kind,bC,e1]
  ·simp[rK,Ex.kind,bC]
 ·rw[e];unfold bN;rw[bH rfl rfl];simp only[bC,fS,eX,bj,lL,aO,aM];by_cases q:S=0
  ·rw[ao q];have:bK s ((S:Rat)*two p)=0:=by rw[dG,q];exact bF _
   rw[ao this,e1,z.mp q];exact jT t s
  ·rw[ag q];have hSp:0<S:=by omega
   have vp:0<(S:Rat)*two p:=fF (fb.mpr hSp) (two_pos _);have:¬bK s ((S:Rat)*two p)=0:=by rw[dG];grind
   rw[ag this];cases s
   ·simp only[bK,aO,aM];rw[ag (by grind)];obtain⟨S',rfl⟩:=aA hS;rw[bu] at *;have hi:rootNat (ik t ⟨false,false,false,S',p⟩) (Nat.log2 (ik t ⟨false,false,false,S',p⟩)/2+2) 0=lG (ik t ⟨false,false,false,S',p⟩):=rfl;obtain⟨rt,er,r1,r2⟩:=nU (ik t ⟨false,false,false,S',p⟩);rw[hi] at er;have hN:((ik t ⟨false,false,false,S',p⟩:Nat):Int)=S'*2^(kO t ⟨false,false,false,S',p⟩).toNat:=by
     unfold ik;exact fC (fH Kk (bo (aX _)))
    have TM:kO t ⟨false,false,false,S',p⟩=2*t.m+6+p%2:=rfl;have core:=K2 t h m (S:=S') (N:=ik t ⟨false,false,false,S',p⟩) (r:=rt) (more:=jU (ik t ⟨false,false,false,S',p⟩)) (power:=p)
     (shift:=kO t ⟨false,false,false,S',p⟩) (w:=(p-kO t ⟨false,false,false,S',p⟩)/2) Kk hp (Ir h r) (by rw[TM];omega) (by rw[TM];omega) hN r1 r2 (by unfold jU;rw[er])
    rw[er,core]
   ·simp only[bK,aJ];rw[ao (by grind)]
end BF
namespace BF
open Lw
theorem okH:Ok HALF:=⟨Ke,Ke,Ke⟩
theorem Wt:Ok BRAIN:=⟨Ke,Ke,Ke⟩
theorem okS:Ok SINGLE:=⟨Ke,Ke,Ke⟩
theorem cH:Ok D:=⟨Ke,Ke,Ke⟩
theorem Qv {t:Fmt} {s r:Bool} {X Y:Nat} (hX:(X:Int)<aU t) (hY:(Y:Int)<aU t) (e:pat t s X=pat t r Y):s=r∧X=Y:=by
 have e1:t.neg (pat t s X)=t.neg (pat t r Y):=by rw[e]
 rw[wb hX,wb hY] at e1;have e2:pat t s X%t.sign=pat t r Y%t.sign:=by rw[e]
 rw[wc hX,wc hY] at e2;exact⟨e1,e2⟩
theorem Iu (s:Bool) {q:Rat} (h:0≤q):size (bK s q)=q:=by
 unfold size bK;cases s
 ·simp only[aO,aM];rw[ag (by grind)]
 ·simp only[aJ];by_cases z:q=0
  ·subst z;rfl
  ·rw[ao (by grind),nE]
theorem u4 (t:Fmt) (h:Ok t) (m:Mode) (s:Bool) {q:Rat} {j:Int} (hq:0<q) (hj:t.leastExp≤j) (BJ:j≤t.bias) (hb:q≤two j) :
  ∃X q',Repr t q' X∧t.put m s (bK s q)=pat t s X∧q'≤two j∧(∀i:Int,two i≤q→(az t≤i)→two i≤q'):=by
 obtain⟨neg,n,d,n0,d0,eQ,BI⟩:=o4 q;have hn:neg=false:=by rw[BI (by grind)];exact bS (by grind)
 subst hn;have uX:0<n:=by
  refine xE.mpr ⟨n0,fun z=>?_⟩;rw[←z] at eQ;have:q=0:=by rw[eQ,dG];show (0:Rat)/d*two 0=0;rw[bQ,bF,bF]
  grind
 have WT:q=(n:Rat)/d*two 0:=eQ;obtain⟨u,c,hu,hc,e1,e2,c0,c1,c2,_⟩:=v9 t m s (power:=0) uX d0;rw[←WT] at e1 e2;have hl:az t≤j:=by unfold az;omega
 have ⟨l1,l2⟩:=g7 hq;have lj:log2 q≤j:=by
  have:=ej.mp (show two (log2 q)<two (j+1) by rw[iU];have:=two_pos j;grind);omega
 rw[oZ,xV] at e1;have uj:u≤j:=by omega
 have e3:bK s q/two u=bK s (q*two (-u)):=by rw[lg,mF]
 have TN:∃n' d':Int,0<d'∧q*two (-u)=(n':Rat)/d'∧c=wq m s n' d':=by
  by_cases q1:0≤0-u
  ·rw[ao q1] at hc;refine⟨_,_,d0,?_,hc⟩;rw[WT,dg,cI,bh,←cX q1,bQ,bQ,show (0-u:Int)=-u by omega];grind
  ·rw[ag q1] at hc;refine⟨_,_,pU d0 (aX _),?_,hc⟩;rw[WT,dg,cI,bh,←cX (show 0≤-(0-u) by omega),bQ,bQ,Bq];have:(two (-(0-u)))⁻¹=two (-u):=pR (by rw[←aY,←dg];congr 1;omega);rw[this];grind
 obtain⟨n',d',ZY,ex,ZZ⟩:=TN;have cle:c≤2^(j-u).toNat:=by
  rw[ZZ];refine F7 ZY ?_;rw[←ex,←cX Kk];have:q*two (-u)≤two j*two (-u):=(cB _).mpr hb;rw[←aY] at this;exact this
 obtain⟨C,hC⟩:=aA c0;obtain⟨i,hi⟩:=aA (show 0≤u-az t by omega);have ui:u=az t+i:=by omega
 have d1:C≤2^(t.m+1):=by
  have z:=c1;rw[hC,←bO] at z;exact iX.mp z
 have d2:0<i→2^t.m≤C:=fun z=>by
  have z:=c2 Kk;rw[hC,←bO] at z;exact iX.mp z
 have Z0:(C:Rat)*two u≤two j:=by
  have z1:((c:Int):Rat)≤two (j-u):=by rw[cX Kk];exact oW.mpr cle
  rw[hC,bu] at z1;have z2:=(cB u).mpr z1;rw[←aY,show j-u+u=j by omega] at z2;exact z2
 have oU:(C:Rat)*two (az t+i)<two (t.bias+1):=by
  rw[←ui];have:=As (show j<t.bias+1 by omega);grind
 have R:=BA t h d1 d2 oU;refine⟨_,_,R,?_,by rw[←ui];exact Z0,?_⟩
 ·have rr:=kN h R m s;rw[←rr];unfold Fmt.put;have nz:¬bK s q=0:=by rw[dG];grind
  rw[ag nz];have TQ:(t.round m (bK s q):Int)=((pat t s (i*2^t.m+C):Nat):Int):=by
   unfold Fmt.round;have eu:t.unit (bK s q)=u:=by rw[oZ,xV];omega
   simp only[eu,e2,Bt hq,hC];have e5:(eJ s (C:Int)).natAbs=C:=by
    have:=Bu s (z:=(C:Int)) Kk;omega
   rw[e5,made_int t h m s C i u ui d1 d2,km];have k:=R.1;have FP:((i*2^t.m+C:Nat):Int)=(i:Int)*2^t.m+C:=by rw[cJ,eS,bO]
   rw[FP] at k ⊢;rw[ag Kk]
  have:=i7 TQ;rw[this];show _=t.put m s _;rw[rr]
 ·intro a ha zE;rw[←ui];by_cases au:u≤a
  ·have z1:(2:Int)^(a-u).toNat≤c:=by
    rw[ZZ];refine KS ZY ?_;rw[←ex,←cX Kk];have:two a*two (-u)≤q*two (-u):=(cB _).mpr ha;rw[←aY] at this;exact this
   have z2:two (a-u)≤((c:Int):Rat):=by rw[cX Kk];exact oW.mpr z1
   rw[hC,bu] at z2;have z3:=(cB u).mpr z2;rw[←aY,show a-u+u=a by omega] at z3;exact z3
  ·have z1:2^t.m≤C:=d2 Kk;have z2:(1:Rat)≤(C:Rat):=dQ.mpr (bZ pP z1);have z3:=(cB u).mpr z2;rw[jh] at z3;have:=gr (show a≤u by omega);grind
theorem Iv (t:Fmt) (h:Ok t) (m:Mode) (z:Bool) {q:Rat} {j:Int} (hj:t.leastExp≤j) (BJ:j≤t.bias) (h1:q≤two j) (h2:-(two j)≤q) :
  ∃s q',t.kind (t.put m z q)=.num s q'∧q'≤two j∧-(two j)≤q'∧(0<q→s=false)∧(q=0→s=z∧q'=0)∧(0≤q→0≤q')∧(∀i:Int,two i≤q→az t≤i→two i≤q'):=by
 rcases Rat.le_total (a:=0) (b:=q) with g | g
 ·by_cases e:q=0
  ·refine⟨z,0,?_,cC (two_pos _),by have:=two_pos j;grind,fun k=>by grind,fun _=>⟨rfl,rfl⟩,fun _=>Ai,fun i hi _=>by have:=two_pos i;grind⟩;have:t.put m z q=pat t z 0:=by unfold Fmt.put;rw[ao e];exact jT t z
   rw[this,ml t z (by have:=gi t h;omega),mG];congr 1;rw[dG];exact bF _
  ·obtain⟨X,q',r,e1,b1,b2⟩:=u4 t h m false (q:=q) (j:=j) (by grind) hj BJ h1;have nn:=qg r;refine⟨false,q',?_,b1,by have:=two_pos j;grind,fun _=>rfl,fun k=>absurd k e,fun _=>nn,fun i hi hl=>b2 i hi hl⟩;rw[kZ t m z false e];have NT:t.put m false q=pat t false X:=e1;rw[NT];exact mH r false
 ·by_cases e:q=0
  ·refine⟨z,0,?_,cC (two_pos _),by have:=two_pos j;grind,fun k=>by grind,fun _=>⟨rfl,rfl⟩,fun _=>Ai,fun i hi _=>by have:=two_pos i;grind⟩;have:t.put m z q=pat t z 0:=by unfold Fmt.put;rw[ao e];exact jT t z
   rw[this,ml t z (by have:=gi t h;omega),mG];congr 1;rw[dG];exact bF _
  ·obtain⟨X,q',r,e1,b1,b2⟩:=u4 t h m true (q:=-q) (j:=j) (by grind) hj BJ (by grind);have nn:=qg r;refine⟨true,-q',?_,by have:=two_pos j;grind,by grind,fun k=>by grind,fun k=>absurd k e,fun k=>by grind,fun i hi _=>by have:=two_pos i;grind⟩;rw[kZ t m z true e];have NT:t.put m true q=pat t true X:=by
    have:bK true (-q)=q:=by unfold bK;simp only[aJ,nE]
    rw[this] at e1;exact e1
   rw[NT];exact mH r true
end BF
namespace BF
open Lw
theorem wj (y last:Nat):∀init:List Nat,horner y (init++[last])=init.reverse.foldl (fun s c=>D.fma .near s y c) last
 | []=>rfl
 | c::r=>by
  have ih:=wj y last r;rw[List.reverse_cons,xF];show horner y (c::(r++[last]))=_;have iY:∃a b,r++[last]=a::b:=by
   cases r with
   | nil=>exact⟨last,[],rfl⟩
   | cons a b=>exact⟨a,b++[last],rfl⟩
  obtain⟨a,b,e⟩:=iY;rw[e] at ih ⊢;rw[←ih];rfl
theorem nV (y:Nat):∀(c d:Nat) (r:List Nat),Out D (horner y (c::d::r)):=fun c d r=>by
 show Out D (D.fma .near (horner y (d::r)) y c);exact fM D cH _ _ _
structure Num (t:Fmt) (x:Nat) (s:Bool) (q:Rat):Prop where
 lt:x<2*t.sign
 kd:t.kind x=.num s q
theorem Num.neg {t:Fmt} {x:Nat} {s:Bool} {q:Rat} (n:Num t x s q):t.neg x=s:=by
 have ⟨ex,hX⟩:=jn t x n.lt;have hk:=gQ t (t.neg x) hX;rw[←ex,n.kd] at hk;split at hk
 ·injection hk with e _;exact e.symm
 ·split at hk<;>cases hk
theorem Num.nan {t:Fmt} {x:Nat} {s:Bool} {q:Rat} (n:Num t x s q):t.isNan x=false:=by
 unfold Fmt.isNan;rw[n.kd];rfl
theorem Num.repr {t:Fmt} {x:Nat} {s:Bool} {q:Rat} (n:Num t x s q):∃X,x=pat t s X∧Repr t (size q) X∧q=bK s (size q):=by
 have ⟨ex,hX⟩:=jn t x n.lt;have hs:=n.neg;have hk:=gQ t (t.neg x) hX;rw[←ex,n.kd] at hk;split at hk
 ·next k =>
  injection hk with e1 e2
  have e3:size q=(gv t (x%t.sign):Rat)*two (az t):=by
   rw[e2];exact Iu _ (pO DK (cC (two_pos _)))
  refine⟨x%t.sign,by rw[e1];exact ex,⟨k,e3⟩,by rw[e3,e1];exact e2⟩
 ·split at hk<;>cases hk
theorem ur {t:Fmt} (h:Ok t) {x y:Nat} {s r:Bool} {p q:Rat} (nx:Num t x s p) (ny:Num t y r q):place t x<place t y↔p<q∨(p=q∧s=true∧r=false):=by
 have e:=mI t h nx.lt ny.lt;have e2:t.before x y=true↔place t x<place t y:=by rw[e];exact bj
 rw[←e2];unfold Fmt.before Fmt.equal Fmt.below;rw[nx.nan,ny.nan,nx.kd,ny.kd,nx.neg,ny.neg];simp only[belowKinds,aO,aM,fS,eX,bR,bj,b5,xG,Kb];constructor
 ·rintro(z | ⟨⟨z1,z2⟩,z3,z4⟩)
  ·exact .inl z
  ·exact .inr ⟨by grind,z3,z4⟩
 ·rintro(z | ⟨z1,z2,z3⟩)
  ·exact .inl z
  ·exact .inr ⟨⟨by grind,by grind⟩,z2,z3⟩
theorem lV {t:Fmt} {X Y:Nat} {p q:Rat} (rx:Repr t p X) (ry:Repr t q Y):p<q↔X<Y:=by
 rw[rx.2,ry.2,cq,Al,uU]
theorem rN (z:Int) (m:Mode) (hz:z.natAbs≤2^53):Num D (D.ofInt m z) (decide (z<0)) (z:Rat):=by
 obtain⟨X,r⟩:=mn D cH (c:=z.natAbs) hz;have e:(z:Rat)=bK (decide (z<0)) ((z.natAbs:Nat):Rat):=by
  rw[←bu,kn];refine rE.mpr ?_;unfold eJ;by_cases k:z<0<;>simp[k]<;>omega
 have e1:D.ofInt m z=pat D (decide (z<0)) X:=by
  unfold Fmt.ofInt;by_cases k:z=0
  ·subst k;have:=kN cH r m false;have e0:bK false ((((0:Int).natAbs:Nat)):Rat)=((0:Int):Rat):=rfl;rw[e0] at this;exact this
  ·rw[kZ D m false (decide (z<0)) (fun q=>k (jH.mp q)),e];exact kN cH r m _
 refine⟨by rw[e1];exact lT D _ (lK r.1 (dC D)),?_⟩;rw[e1,e];exact mH r _
theorem Au {t:Fmt} {x:Nat} {s:Bool} {q:Rat} (n:Num t x s q):∃S p,ta t x=bN s S p∧az t≤p∧0≤S∧q=bK s ((S:Rat)*two p)∧S<2^(t.m+1):=by
 have hk:=n.kd;rw[←cY t x n.lt] at hk;have sz:=(gj t x Kk).2;rcases tf t n.lt with ⟨s',X,_,_,_,e⟩ | ⟨s',e1,e⟩ | ⟨s',X,e1,hX,S,p,e,hp,hS,r,z⟩
 ·rw[e] at hk;cases hk
 ·rw[e] at hk;cases hk
 ·rw[e] at hk sz;have P4:Kind.num s' (bK s' ((S:Rat)*two p))=.num s q:=by
   rw[←hk];unfold bN;rw[bH rfl rfl]
  injection P4 with e2 e3
  subst e2;exact⟨S,p,e,hp,hS,e3.symm,sz⟩
theorem Gd (t:Fmt) (h:Ok t) (m:Mode) (z:Bool) {q:Rat} {j:Int} (hj:t.leastExp≤j) (BJ:j≤t.bias) (h1:size q≤two j) (h2:two (az t)≤size q):eC t (t.put m z q)=false:=by
 have hq:0<size q:=by have:=two_pos (az t);grind
 obtain⟨s,e⟩:∃s,q=bK s (size q):=by
  unfold size;by_cases k:q<0
  ·exact⟨true,by rw[ao k];unfold bK;simp only[aJ,nE]⟩
  ·exact⟨false,by rw[ag k];rfl⟩
 have iY:q≠0:=by
  intro k;rw[k] at hq;have:size 0=0:=by rfl
  rw[this] at hq;exact Rat.lt_irrefl hq
 obtain⟨X,q',r,e1,b1,b2⟩:=u4 t h m s hq hj BJ h1;have FV:=b2 _ h2 (oG _);rw[kZ t m z s iY]
 conv=>lhs;rw[e]
 rw[e1];unfold eC;have hX:=lK r.1 (dC t);rw[(iE (neg:=s) hX).1];refine bS fun k=>?_;have k':X=0:=by omega
 subst k';have:=r.2;rw[mG] at this;have h0:q'=0:=by rw[this];exact bF _
 have:=two_pos (az t);grind
theorem K4 (t:Fmt) (m:Mode) (z:Bool):eC t (t.put m z 0)=true:=by
 have:t.put m z 0=pat t z 0:=by unfold Fmt.put;rw[ao rfl];exact jT t z
 rw[this];unfold eC;rw[(iE (neg:=z) (show ((0:Nat):Int)<aU t from aX _)).1];rfl
def LB:Nat:=0xC092C00000000000
def GB:Nat:=0x4091300000000000
theorem Ge:LB=D.ofInt .near (-1200):=by decide +kernel
theorem Gf:GB=D.ofInt .near 1100:=by decide +kernel
theorem My:Num D LB true (-1200):=by rw[Ge];exact rN (-1200) .near Ke
theorem Mz:Num D GB false 1100:=by rw[Gf];exact rN 1100 .near Ke
def il (x:Nat):Nat:=if place D x<place D LB then LB else if place D GB<place D x then GB else x
def mK (x:Nat):Int:=eJ (ta D x).neg (dq .near (ta D x))
def xW (x:Nat):Nat :=
 let y:=D.sub .near (il x) (D.ofInt .near (mK (il x)))
 if eC D y=true then 0 else y
theorem lH {q:Rat} {a b:Int} (h1:(a:Rat)≤q) (h2:q≤b):a≤nearestEven q∧nearestEven q≤b∧(nearestEven q:Rat)≤q+1/2∧q-1/2≤(nearestEven q:Rat):=by
 unfold nearestEven;dsimp only;have f1:=Rat.floor_le (q+1/2);have f2:=Rat.lt_floor_add_one (q+1/2);rw[Rat.intCast_add] at f2;have f2':q+1/2<((q+1/2).floor:Rat)+1:=f2;generalize (q+1/2).floor=n at *;split
 ·next k =>
  have e:((n-1:Int):Rat)=(n:Rat)-1:=by rw[nD];rfl
  have k1:=k.1;refine⟨?_,?_,by rw[e];grind,by rw[e];grind⟩
  ·have:(a:Rat)<((n-1+1:Int):Rat):=by rw[show n-1+1=n by omega];grind
   have:=mC.mp this;omega
  ·have:((n-1:Int):Rat)<((b+1:Int):Rat):=by
    rw[e,dI];show _<(b:Rat)+1;grind
   have:=mC.mp this;omega
 ·next k =>
  refine⟨?_,?_,by grind,by grind⟩
  ·have:(a:Rat)<((n+1:Int):Rat):=by rw[dI];show _<(n:Rat)+1;grind
   have:=mC.mp this;omega
  ·have:(n:Rat)<((b+1:Int):Rat):=by rw[dI];show _<(b:Rat)+1;grind
   have:=mC.mp this;omega
theorem xX {x:Nat} {s:Bool} {q:Rat} (n:Num D x s q):∃s',Num D (il x) s' (if q < -1200 then -1200 else if 1100<q then 1100 else q):=by
 unfold il;have a:=ur cH n My;have b:=ur cH Mz n;have a':place D x<place D LB↔q < -1200:=by
  rw[a];constructor
  ·rintro(z | ⟨_,_,z⟩)
   ·exact z
   ·cases z
  ·exact .inl
 have b':place D GB<place D x↔1100<q:=by
  rw[b];constructor
  ·rintro(z | ⟨_,z,_⟩)
   ·exact z
   ·cases z
  ·exact .inl
 by_cases k1:q < -1200
 ·rw[ao (a'.mpr k1),ao k1];exact⟨true,My⟩
 ·rw[ag fun z=>k1 (a'.mp z),ag k1];by_cases k2:1100<q
  ·rw[ao (b'.mpr k2),ao k2];exact⟨false,Mz⟩
  ·rw[ag fun z=>k2 (b'.mp z),ag k2];exact⟨s,n⟩
theorem Fd {x:Nat} {s:Bool} {q:Rat} (n:Num D x s q):mK x=nearestEven q:=by
 unfold mK;obtain⟨S,p,e,hp,hS,hq,_⟩:=Au n;rw[e];have:=(mJ .near (u:=bN s S p) hS).1;rw[hq];exact this.symm
theorem NV {x:Nat} {s:Bool} {q:Rat} (n:Num D x s q) (k:Int) (iY:q-(k:Rat)≠0):two (az D)≤size (q-k):=by
 obtain⟨S,p,e,hp,hS,hq,_⟩:=Au n;have hl:az D≤0:=by decide
 obtain⟨z,hz⟩:∃z:Int,q-(k:Rat)=(z:Rat)*two (az D):=by
  obtain⟨a,ha⟩:=aA (show 0≤p-az D by omega);obtain⟨b,hb⟩:=aA (show 0≤0-az D by omega);refine⟨eJ s S*2^a-k*2^b,?_⟩;have e1:two p=two (a:Int)*two (az D):=by rw[←aY];congr 1;omega
  have e2:(1:Rat)=two (b:Int)*two (az D):=by rw[←aY,←dg];congr 1;omega
  have e3:(k:Rat)=(k:Rat)*(two (b:Int)*two (az D)):=by rw[←e2,cI]
  rw[hq,e1,e3,nD,bh,bh,←gd,←gd,←kn];rw[show bK s ((S:Rat)*(two (a:Int)*two (az D)))=bK s (S:Rat)*(two (a:Int)*two (az D)) by rw[mF]];grind
 rw[hz];have z0:z≠0:=by
  rintro rfl;exact iY (by rw[hz];exact bF _)
 have tp:=two_pos (az D);unfold size;by_cases zn:z<0
 ·have c:(z:Rat)≤-1:=by
   have:z≤-1:=by omega
   have:=oW.mpr this;exact this
  have:=j4 c (cC tp);rw[ao (by grind)];grind
 ·have c:(1:Rat)≤(z:Rat):=by
   have:1≤z:=by omega
   have:=oW.mpr this;exact this
  have:=j4 c (cC tp);rw[ag (by grind)];grind
theorem Qx (m:Mode) {x:Nat} {s:Bool} {q:Rat} (n:Num D x s q):exp2 m x=D.scale m (horner (xW x) EXP2) (mK (il x)):=by
 unfold exp2;rw[n.kd];dsimp only;obtain⟨s',n'⟩:=xX n;generalize hp:(if q < -1200 then (-1200:Rat) else if 1100<q then 1100 else q)=p at *;have b1:((-1200:Int):Rat)≤p:=by rw[←hp];show (-1200:Rat)≤_;split<;>(try split)<;>grind
 have b2:p≤((1100:Int):Rat):=by rw[←hp];show _≤(1100:Rat);split<;>(try split)<;>grind
 have nb:=lH b1 b2;have hk:mK (il x)=nearestEven p:=Fd n';rw[hk];congr 2;unfold xW;dsimp only;rw[hk];generalize nearestEven p=k at *;have nk:=rN k .near Kk;have Z1:D.sub .near (il x) (D.ofInt .near k)=D.put .near (zeroSign .near p (-(k:Rat)) s' (!decide (k<0))) (p-(k:Rat)):=by
  unfold Fmt.sub;rw[n'.kd,nk.kd,Rat.sub_eq_add_neg];rfl
 rw[Z1];generalize zeroSign .near p (-(k:Rat)) s' (!decide (k<0))=zz;by_cases e:p-(k:Rat)=0
 ·rw[e,K4];simp only[aJ];decide +kernel
 ·rw[Gd D cH _ _ (j:=0) Ke Ke]
  ·simp only[aO,aM];exact kZ D _ _ _ e
  ·rw[dg];unfold size;split<;>grind
  ·exact NV n' k e
end BF
namespace BF
open Lw
def hZ:Nat:=0x3FF0000000000000
theorem nW:hZ=D.ofInt .near 1:=by decide +kernel
theorem Iw:Num D hZ false 1:=by rw[nW];exact rN 1 .near Ke
theorem Iy {S p:Int} (h:0<S):log2 ((S:Rat)*two p)=bl S-1+p:=by
 have ⟨a,b⟩:=oY h;refine Ik ?_ ?_
 ·rw[aY];exact(cB _).mpr a
 ·rw[show bl S-1+p+1=bl S+p by omega,aY];exact(cq _).mpr b
def AF:Nat:=0x3FF6A09E667F3BCD
def pd (x:Nat):Nat:=D.ofKind .near (bN false (ta D x).size (-(bl (ta D x).size-1))).kind
def mL (x:Nat):Int:=(ta D x).power+(bl (ta D x).size-1)
def ou (x:Nat):Nat:=if AF≤pd x then D.scale .near (pd x) (-1) else pd x
def jM (x:Nat):Int:=if AF≤pd x then mL x+1 else mL x
def BK (x:Nat):Nat:=D.div .near (D.sub .near (ou x) hZ) (D.add .near (ou x) hZ)
theorem K5 {x:Nat} {q:Rat} (n:Num D x false q) (hq:0<q):∃F fv,pd x=pat D false F∧Repr D fv F∧1≤fv∧fv<2∧q=fv*two (mL x)∧log2 q=mL x∧-1074≤mL x∧mL x<1024:=by
 obtain⟨S,p,e,hp,hS,hqe,Z2⟩:=Au n;have MA:q=(S:Rat)*two p:=hqe;have Z3:0<S:=by
  refine xE.mpr ⟨hS,fun z=>?_⟩;rw[←z] at MA;have:q=0:=by rw[MA];exact bF _
  grind
 obtain⟨S',rfl⟩:=aA hS;have ⟨a,b⟩:=oY Z3;have hb:bl (S':Int)-1<53:=by
  refine ej.mp ?_;have:((S':Int):Rat)<two 53:=by
   rw[show two 53=((2^53:Int):Rat) from gd 53];exact mC.mpr Z2
  grind
 have Z4:0≤bl (S':Int)-1:=by
  have:two 0≤((S':Int):Rat):=by rw[dg];exact oW.mpr (by omega:(1:Int)≤S')
  have:=ej.mp (show two 0<two (bl (S':Int)) by grind);omega
 have fv1:(1:Rat)≤(S':Rat)*two (-(bl (S':Int)-1)):=by
  have:=(cB (-(bl (S':Int)-1))).mpr a;rw[←aY,show bl (S':Int)-1+-(bl (S':Int)-1)=0 by omega,dg,bu] at this;exact this
 have fv2:(S':Rat)*two (-(bl (S':Int)-1))<2:=by
  have:=(cq (-(bl (S':Int)-1))).mpr b;rw[←aY,show bl (S':Int)+-(bl (S':Int)-1)=1 by omega,jC,bu] at this;exact this
 have hSn:S'<2^(D.m+1):=by
  have z:=Z2;rw[←bO] at z;exact j6.mp z
 obtain⟨F,r⟩:=BB D cH (c:=S') (v:=-(bl (S':Int)-1)) hSn (by have:az D=-1074:=Ke;omega) (by
   have:two (D.bias+1)=two 1024:=rfl;rw[this];have:=gr (show (1:Int)≤1024 by decide);rw[jC] at this;grind)
 have hK:mL x=p+(bl (S':Int)-1):=by unfold mL;rw[e];rfl
 have hl:log2 q=mL x:=by rw[MA,Iy Z3,hK];omega
 refine⟨F,_,?_,r,fv1,fv2,?_,hl,?_,?_⟩
 ·unfold pd;rw[e];unfold bN;rw[bH rfl rfl];show D.put .near false (bK false ((((S':Nat):Int):Rat)*two (-(bl (S':Int)-1))))=_;rw[bu];exact kN cH r .near false
 ·rw[hK,bV,←aY,MA,bu];congr 2;omega
 ·have:az D=-1074:=by decide
  omega
 ·obtain⟨X,_,rr,_⟩:=n.repr;have hs:size q=q:=by unfold size;rw[ag (by grind)]
  rw[hs] at rr;have h1:=Ir cH rr;have ⟨h2,_⟩:=g7 hq;rw[←hl];have:two (D.bias+1)=two 1024:=rfl;rw[this] at h1;exact ej.mp (by grind)
theorem Gg {x:Nat} {q:Rat} (n:Num D x false q) (hq:0<q):ou x=D.put .near false (q*two (-jM x))∧jM x=(if q*two (-(log2 q+1))<ROOTHALF then log2 q+1-1 else log2 q+1)∧two (-1)≤q*two (-jM x)∧q*two (-jM x)≤2∧(-1074≤jM x∧jM x≤1024):=by
 obtain⟨F,fv,e1,r,f1,f2,e2,e3,k1,k2⟩:=K5 n hq;have rA:Repr D (ROOTHALF*2) AF:=⟨Ke,by decide +kernel⟩;have cmp:=lV r rA;have e4:q*two (-(log2 q+1))=fv*two (-1):=by
  rw[e3];conv=>lhs;arg 1;rw[e2]
  rw[bV,←aY];congr 2;omega
 have h21:two (-1)*2=1:=by rw[←jC];exact oX 1
 have Z5:=two_pos (-1);have cond:q*two (-(log2 q+1))<ROOTHALF↔F<AF:=by
  rw[e4,←cmp,show two (-1)=1/2 from rfl];generalize ROOTHALF=R;constructor<;>intro z<;>grind
 have hF:AF≤pd x↔¬F<AF:=by rw[e1];unfold pat;simp
 unfold ou jM;by_cases c:F<AF
 ·rw[ag fun z=>hF.mp z c,ag fun z=>hF.mp z c,ao (cond.mpr c)];have e5:q*two (-mL x)=fv:=by
   conv=>lhs;arg 1;rw[e2]
   rw[bV,←aY,show mL x+-mL x=0 by omega,dg,cI]
  rw[e5];refine⟨by rw[e1];exact(kN cH r .near false).symm,Kk,by rw[show two (-1)=1/2 from rfl];grind,cC f2,Kk⟩
 ·rw[ao (hF.mpr c),ao (hF.mpr c),ag fun z=>c (cond.mp z)];have e5:q*two (-(mL x+1))=fv*two (-1):=by rw[←e3];exact e4
  rw[e5];refine⟨?_,Kk,by rw[show two (-1)=1/2 from rfl];grind,by rw[show two (-1)=1/2 from rfl];grind,Kk⟩;unfold Fmt.scale;rw[e1,mH r false];rfl
theorem Iz (m:Mode) {x:Nat} {q:Rat} (n:Num D x false q) (hq:0<q):logb m x=D.fma m (BK x) (horner (D.mul .near (BK x) (BK x)) LOG2) (D.ofInt .near (jM x)):=by
 have ⟨a,b,_⟩:=Gg n hq;unfold logb;rw[n.kd];dsimp only;rw[if_neg (by grind),if_neg Ke,←b,←a,←nW];rfl
theorem mM {t:Fmt} (h:Ok t) (m:Mode) (z:Bool) {q:Rat} {j:Int} (hj:t.leastExp≤j) (BJ:j≤t.bias) (h1:q≤two j) (h2:-(two j)≤q) :
  ∃s q',Num t (t.put m z q) s q'∧q'≤two j∧-(two j)≤q'∧(∀i:Int,two i≤q→az t≤i→two i≤q'):=by
 obtain⟨s,q',k,a,b,_,_,_,d⟩:=Iv t h m z hj BJ h1 h2;exact⟨s,q',⟨eA h (lp t h m z q),k⟩,a,b,d⟩
theorem rO {a b B:Rat} (hB:0≤B) (h1:a≤B) (h2:-B≤a) (h3:b≤1) (h4:-1≤b):a*b≤B∧-B≤a*b:=by
 rcases Rat.le_total (a:=0) (b:=b) with g | g
 ·have x1:=j4 h1 g;have x2:=j4 h2 g;have x3:=gw h3 hB;constructor<;>grind
 ·have g':0≤-b:=by grind
  have x1:=j4 h1 g';have x2:=j4 h2 g';have x3:=gw (show -b≤1 by grind) hB;constructor<;>grind
theorem IA {a b c:Nat} {s1 s2 s3:Bool} {p q r:Rat} {j:Int} (na:Num D a s1 p) (nb:Num D b s2 q) (nc:Num D c s3 r) (m:Mode) (hj:-1022≤j) (BJ:j≤1023) (h1:p*q+r≤two j) (h2:-(two j)≤p*q+r) :
  ∃s v,Num D (D.fma m a b c) s v∧v≤two j∧-(two j)≤v:=by
 unfold Fmt.fma;rw[na.kd,nb.kd,nc.kd];simp only[timesKinds,Fmt.addKinds];have e1:D.leastExp=-1022:=by decide
 have e2:D.bias=1023:=by decide
 obtain⟨s,v,n,a,b,_⟩:=mM cH m (zeroSign m (p*q) r (s1 != s2) s3) (by rw[e1];exact hj) (by rw[e2];exact BJ) h1 h2;exact⟨s,v,n,a,b⟩
def Qz (c:Nat):Prop:=∃s r,Num D c s r∧r≤4∧-4≤r
theorem yU {y:Nat} {s:Bool} {q:Rat} (ny:Num D y s q) (h1:q≤1) (h2:-1≤q):∀(l:List Nat),l≠[]→(∀c∈l,Qz c)→l.length≤100→∃s v,Num D (horner y l) s v∧v≤two (l.length+2)∧-(two (l.length+2))≤v
 | [],h,_,_=>absurd rfl h
 | [c],_,hc,_=>by
  obtain⟨s,r,n,a,b⟩:=hc c (by simp);have:(4:Rat)≤two (([c].length:Int)+2):=by
   have:=gr (show (2:Int)≤([c].length:Int)+2 by simp);rw[show two 2=4 by rfl] at this;exact this
  exact⟨s,r,n,by grind,by grind⟩
 | c::d::r,_,hc,hl=>by
  obtain⟨s1,v,n,a,b⟩:=yU ny h1 h2 (d::r) (by simp) (fun c' h'=>hc c' (dw _ h')) (by simp at hl ⊢;omega);obtain⟨s2,w,n2,a2,b2⟩:=hc c (by simp);have hB:=two_pos (((d::r).length:Int)+2);have ⟨x1,x2⟩:=rO (cC hB) a b h1 h2;have e:two (((c::d::r).length:Int)+2)=2*two (((d::r).length:Int)+2):=by rw[←iU];congr 1
  have f:(4:Rat)≤two (((d::r).length:Int)+2):=by
   have:=gr (show (2:Int)≤((d::r).length:Int)+2 by simp;omega);rw[show two 2=4 by rfl] at this;exact this
  show ∃s v,Num D (D.fma .near (horner y (d::r)) y c) s v∧_;exact IA n ny n2 .near (by simp at hl ⊢;omega) (by simp at hl ⊢;omega) (by rw[e];grind) (by rw[e];grind)
theorem QA {c:Nat} {s:Bool} {X:Nat} (e:c=pat D s X) (h:(X:Int)<bE D) (h1:(gv D X:Rat)*two (az D)≤4):Qz c:=by
 have nn:(0:Rat)≤(gv D X:Rat)*two (az D):=pO DK (cC (two_pos _));refine⟨s,bK s ((gv D X:Rat)*two (az D)),⟨by rw[e];exact lT D s (lK h (dC D)),by rw[e];exact ml D s h⟩,?_,?_⟩
 ·unfold bK;cases s<;>simp<;>grind
 ·unfold bK;cases s<;>simp<;>grind
theorem NW:∀c∈LOG2,Qz c:=by
 intro c hc;have:∀c∈LOG2,((c:Nat):Int)<bE D∧(gv D c:Rat)*two (az D)≤4:=by decide +kernel
 have ⟨a,b⟩:=this c hc;exact QA (s:=false) (X:=c) (by unfold pat;simp) a b
theorem QB {x:Nat} {q:Rat} (n:Num D x false q) (hq:0<q):∃s v,Num D (logb .near x) s v:=by
 rw[Iz .near n hq];have ⟨a,_,b1,b2,b3⟩:=Gg n hq;have h1:two (-1)=1/2:=by rfl
 have t1:two 1=2:=jC;have t2:two 2=4:=by rfl
 have t0:=dg;have le:D.leastExp=-1022:=by decide
 have bi:D.bias=1023:=by decide
 have ll:az D=-1074:=by decide
 obtain⟨sf,f,nf,f1,f2,f3⟩:=mM cH .near false (q:=q*two (-jM x)) (j:=1) (by rw[le];decide) (by rw[bi];decide) (by rw[t1];exact b2) (by rw[t1];rw[h1] at b1;grind);rw[←a] at nf;have f4:=f3 (-1) b1 (by rw[ll];decide);rw[h1] at f4;rw[t1] at f1;clear f3 f2 b1 b2;obtain⟨s1,d,nd,d1,d2⟩:∃s v,Num D (D.sub .near (ou x) hZ) s v∧v≤1∧-1≤v:=by
  unfold Fmt.sub;rw[nf.kd,Iw.kd];simp only[turned,Fmt.addKinds];obtain⟨s,v,n,a,b,_⟩:=mM cH .near (zeroSign .near f (-1) sf (!false)) (q:=f+-1) (j:=0) (by rw[le];decide) (by rw[bi];decide) (by rw[t0];grind) (by rw[t0];grind);exact⟨s,v,n,by grind,by grind⟩
 obtain⟨s2,g,ng,g1⟩:∃s v,Num D (D.add .near (ou x) hZ) s v∧1≤v:=by
  unfold Fmt.add;rw[nf.kd,Iw.kd];simp only[Fmt.addKinds];obtain⟨s,v,n,a,b,c⟩:=mM cH .near (zeroSign .near f 1 sf false) (q:=f+1) (j:=2) (by rw[le];decide) (by rw[bi];decide) (by rw[t2];grind) (by rw[t2];grind);have:=c 0 (by rw[t0];grind) (by rw[ll];decide);exact⟨s,v,n,by grind⟩
 obtain⟨s3,w,nw,w1,w2⟩:∃s v,Num D (BK x) s v∧v≤1∧-1≤v:=by
  unfold BK Fmt.div;rw[nd.kd,ng.kd];dsimp only;rw[if_neg (by grind)];have gp:0<g:=by grind
  have z1:d/g≤1:=by
   refine dZ.mp fun z=>?_;rw[Hk gp] at z;grind
  have z2:-1≤d/g:=by
   refine dZ.mp fun z=>?_;rw[iO gp] at z;grind
  obtain⟨s,v,n,a,b,_⟩:=mM cH .near (s1 != s2) (q:=d/g) (j:=0) (by rw[le];decide) (by rw[bi];decide) (by rw[t0];exact z1) (by rw[t0];exact z2);exact⟨s,v,n,by grind,by grind⟩
 obtain⟨s4,y,ny,y1,y2⟩:∃s v,Num D (D.mul .near (BK x) (BK x)) s v∧v≤1∧-1≤v:=by
  unfold Fmt.mul;rw[nw.kd];simp only[timesKinds,Fmt.ofKind];have ⟨z1,z2⟩:=rO (B:=1) Ke w1 w2 w1 w2;obtain⟨s,v,n,a,b,_⟩:=mM cH .near (s3 != s3) (q:=w*w) (j:=0) (by rw[le];decide) (by rw[bi];decide) (by rw[t0];exact z1) (by rw[t0];exact z2);exact⟨s,v,n,by grind,by grind⟩
 obtain⟨s5,hh,nh,uR,tV⟩:=yU ny y1 y2 LOG2 Ke NW Ke;have nk:=rN (jM x) .near Kk;have hB:=two_pos (((LOG2.length:Nat):Int)+2);have ⟨z1,z2⟩:=rO (cC hB) uR tV w1 w2;have hL:(((LOG2.length:Nat):Int)+2)=14:=by decide
 rw[hL] at z1 z2;have k1:((jM x:Int):Rat)≤two 14:=by
  have:two 14=((16384:Int):Rat):=by rfl
  rw[this];exact oW.mpr Kk
 have k2:-(two 14)≤((jM x:Int):Rat):=by
  have:-(two 14)=((-16384:Int):Rat):=by rfl
  rw[this];exact oW.mpr Kk
 have Z6:two 15=2*two 14:=iU 14;obtain⟨s,v,n,_⟩:=IA nw nh nk .near (j:=15) Ke Ke (by rw[fc w hh,Z6];grind) (by rw[fc w hh,Z6];grind);exact⟨s,v,n⟩
end BF
namespace BF
open Lw
def rv (c:Nat):Rat:=(gv D c:Rat)*two (az D)
def Av:List Nat→Bool
 | []=>true
 | [c]=>decide ((c:Int)<bE D)&&(decide (0<rv c)&&(decide (-1000≤log2 (rv c))&&decide (log2 (rv c)≤100)))
 | c::d::r=>decide ((c:Int)<bE D)&&(decide (0<rv c)&&(decide (-1000≤log2 (rv c))&&(decide (log2 (rv c)≤100)&&(decide (two (log2 (rv d)+1)≤rv c)&&Av (d::r)))))
theorem MC {c:Nat} (h:(c:Int)<bE D):Num D c false (rv c):=by
 have e:c=pat D false c:=by unfold pat;simp
 refine⟨by rw[e];exact lT D false (lK h (dC D)),?_⟩
 conv=>lhs;rw[e]
 exact ml D false h
theorem Gh (m:Mode) (z:Bool) {q:Rat} {j:Int} (hj:-1022≤j) (BJ:j≤1023) (h0:0≤q) (h1:q≤two j) (hz:q=0→z=false) :
  ∃q',Num D (D.put m z q) false q'∧q'≤two j∧0≤q':=by
 have e1:D.leastExp=-1022:=by decide
 have e2:D.bias=1023:=by decide
 obtain⟨s,q',k,a,b,c,d,e,_⟩:=Iv D cH m z (by rw[e1];exact hj) (by rw[e2];exact BJ) h1 (by have:=two_pos j;grind);have hs:s=false:=by
  by_cases g:q=0
  ·rw[(d g).1];exact hz g
  ·exact c (by grind)
 subst hs;exact⟨q',⟨eA cH (lp D cH m z q),k⟩,a,e h0⟩
theorem NX {p q B:Rat} (h0:0≤p) (h1:p≤B) (h2:q≤1/2) (h3:-(1/2)≤q):-(B*(1/2))≤p*q∧p*q≤B*(1/2):=by
 have x1:=gw h2 h0;have x2:=gw h3 h0;have x3:=j4 h1 (show (0:Rat)≤1/2 by grind);constructor<;>grind
theorem IB {y:Nat} {s:Bool} {q:Rat} (ny:Num D y s q) (h1:q≤1/2) (h2:-(1/2)≤q) (l:List Nat):∀(c:Nat),Av (c::l)=true→∃v,Num D (horner y (c::l)) false v∧0≤v∧v≤two (log2 (rv c)+2):=by
 induction l with
 | nil =>
  intro c h;simp only[Av,b5,bj] at h;have ⟨_,b⟩:=g7 h.2.1;refine⟨rv c,MC h.1,cC h.2.1,?_⟩;have:=gr (show log2 (rv c)+1≤log2 (rv c)+2 by omega);grind
 | cons d r ih =>
  intro c h;simp only[Av,b5,bj] at h;obtain⟨hc,hp,hl,fo,AR,hr⟩:=h;obtain⟨v,nv,v0,v1⟩:=ih d hr;have ⟨_,b⟩:=g7 hp;have ⟨w1,w2⟩:=NX v0 v1 h1 h2;have e1:two (log2 (rv d)+2)*(1/2)=two (log2 (rv d)+1):=by
   rw[show log2 (rv d)+2=log2 (rv d)+1+1 by omega,iU (log2 (rv d)+1)];grind
  rw[e1] at w1 w2;have e2:two (log2 (rv c)+2)=2*two (log2 (rv c)+1):=by rw[←iU];congr 1;omega
  have nc:=MC hc;show ∃v,Num D (D.fma .near (horner y (d::r)) y c) false v∧_;unfold Fmt.fma;rw[nv.kd,ny.kd,nc.kd];simp only[timesKinds,Fmt.addKinds];obtain⟨q',n,a,b'⟩:=Gh .near (zeroSign .near (v*q) (rv c) (false != s) false) (q:=v*q+rv c) (j:=log2 (rv c)+2) Kk Kk (by grind) (by rw[e2];grind) (fun _=>by
   unfold zeroSign;rw[ag (fun z=>by have:=z.2.1;grind)];rfl)
  exact⟨q',n,b',a⟩
theorem NY (m:Mode) {z:Nat} (hz:z<2*D.sign) (hn:D.isNan z=false):∃X:Nat,exp2 m z=pat D false X∧(X:Int)≤bE D:=by
 rcases tf D hz with ⟨s,X,e1,h1,h2,e⟩ | ⟨s,e1,e⟩ | ⟨s,X,e1,hX,S,p,e,hp,hS,r,_⟩
 ·rw[e1,iF D s h1] at hn;have:=lO hn;omega
 ·have hk:=cY D z hz;rw[e] at hk;unfold exp2;rw[←hk];show ∃X:Nat,(if s=true then D.zero false else D.inf false)=_∧_;cases s
  ·exact⟨(bE D).toNat,by rw[ag Ke];exact wd D cH false,by have:=gi D cH;omega⟩
  ·exact⟨0,by rw[ao rfl];exact jT D false,by have:=gi D cH;omega⟩
 ·have n:Num D z s (bK s ((S:Rat)*two p)):=⟨hz,by rw[←cY D z hz,e];unfold bN;rw[bH rfl rfl]⟩;generalize bK s ((S:Rat)*two p)=q at n;unfold exp2;rw[n.kd];dsimp only;generalize TU:(if q < -1200 then (-1200:Rat) else if 1100<q then 1100 else q)=w;have b1:((-1200:Int):Rat)≤w:=by rw[←TU];show (-1200:Rat)≤_;split<;>(try split)<;>grind
  have b2:w≤((1100:Int):Rat):=by rw[←TU];show _≤(1100:Rat);split<;>(try split)<;>grind
  have nb:=lH b1 b2;generalize nearestEven w=k at nb;have h1:two (-1)=1/2:=by rfl
  have le:D.leastExp=-1022:=by decide
  have bi:D.bias=1023:=by decide
  obtain⟨sy,y,ny,y1,y2,_⟩:=mM cH .near false (q:=w-(k:Rat)) (j:=-1) (by rw[le];decide) (by rw[bi];decide) (by rw[h1];grind) (by rw[h1];grind);obtain⟨v,nv,v0,v1⟩:=IB ny (by grind) (by grind) (EXP2.drop 1) 0x3ff0000000000000 (by decide +kernel);have nv':Num D (horner (D.put .near false (w-(k:Rat))) EXP2) false v:=nv;unfold Fmt.scale;rw[nv'.kd];dsimp only;have hv:0≤v*two k:=Rat.mul_nonneg v0 (Rat.le_of_lt (two_pos _));obtain⟨s',X',e',KU⟩:=F9 D cH m false (v*two k);refine⟨X',?_,KU⟩;have NZ:s'=false:=by
   by_cases g:v*two k=0
   ·rw[g] at e';have:D.put m false 0=pat D false 0:=by unfold Fmt.put;rw[ao rfl];exact jT D false
    rw[this] at e';exact(Qv Ke (qZ KU (dC D)) e').1.symm
   ·
    obtain⟨neg,n',d',n0,d0,eQ,BI⟩:=o4 (v*two k);have Bw:neg=false:=by rw[BI g];exact bS (by grind)
    subst Bw;have uX:0<n':=by
     refine xE.mpr ⟨n0,fun z=>?_⟩;rw[←z] at eQ;exact g (by rw[eQ,dG];show (0:Rat)/d'*two 0=0;rw[bQ,bF,bF])
    obtain⟨c,j,_,_,_,_,_,_,hr⟩:=jS D cH m false (power:=0) uX d0;rw[←eQ] at hr;unfold Fmt.put at e';rw[ag g] at e';rw[e',km] at hr;cases s'
    ·rfl
    ·exfalso;unfold ws at hr;simp only[aJ,aO,aM] at hr;have a1:=dC D;split at hr
     ·split at hr<;>omega
     ·omega
  rw[e',NZ]
def QC:Nat:=0x4330000000000000
def qj (x:Nat):Ex:=if QC≤x%D.sign then bN (ta D x).neg 0 0 else ta D x
def BL (x:Nat):Int:=eJ (qj x).neg (dq .near (fY (qj x) 2))
def beyond (u:Ex) (n:Int):Ex:=if bC (cG .near u (fY (gJ (-n)) (-2)))=true then bN u.neg 0 0 else cG .near u (fY (gJ (-n)) (-2))
theorem kP (s:Bool) (S p:Int):(bN s S p).kind=.num s (bK s ((S:Rat)*two p)):=by unfold bN;rw[bH rfl rfl]
theorem wm {s:Bool} {S p:Int} (hS:0≤S) (n:Int):D.ofKind .near (beyond (bN s S p) n).kind=D.put .near s (bK s ((S:Rat)*two p)-(n:Rat)/4):=by
 have e0:fY (gJ (-n)) (-2)=bN (decide (-n<0)) ((-n).natAbs:Int) (0+-2):=rfl;have WW:two (0+-2)=1/4:=by rfl
 have e1:(fY (gJ (-n)) (-2)).kind=.num (decide (-n<0)) (-(n:Rat)/4):=by
  rw[e0];by_cases hn:-n=0
  ·have Hw:n=0:=by omega
   subst Hw;rw[kP];congr 1;rw[show ((((-0:Int)).natAbs:Int):Rat)=0 from rfl,bF,show -((0:Int):Rat)/4=0 from by show -(0:Rat)/4=0;grind];exact dG.mpr rfl
  ·rw[lh hn,WW,iH];congr 1;grind
 have hsz:0≤(fY (gJ (-n)) (-2)).size:=by rw[e0];show (0:Int)≤((-n).natAbs:Int);omega
 have pk:=qf D .near (u:=bN s S p) (v:=fY (gJ (-n)) (-2)) hS hsz;have VI:D.ofKind .near (cG .near (bN s S p) (fY (gJ (-n)) (-2))).kind=D.put .near (zeroSign .near (bK s ((S:Rat)*two p)) (-(n:Rat)/4) s (decide (-n<0))) (bK s ((S:Rat)*two p)-(n:Rat)/4):=by
  rw[pk,kP,e1];simp only[Fmt.addKinds];congr 1;grind
 unfold beyond;obtain⟨s',S',p',e2,e3⟩:∃s' S' p',cG .near (bN s S p) (fY (gJ (-n)) (-2))=bN s' S' p'∧bK s' ((S':Rat)*two p')=bK s ((S:Rat)*two p)-(n:Rat)/4:=by
  have c1:=o5 (u:=bN s S p) (p:=min p (0+-2)) (by show _≤p;omega);have c2:=o5 (u:=fY (gJ (-n)) (-2)) (p:=min p (0+-2)) (by rw[e0];show _≤(0+-2:Int);omega);have VJ:((cnt (bN s S p) (min p (0+-2))+cnt (fY (gJ (-n)) (-2)) (min p (0+-2)):Int):Rat)*two (min p (0+-2))=bK s ((S:Rat)*two p)-(n:Rat)/4:=by
   rw[dI,pN,c1,c2];have NT:=e1;rw[e0,kP] at NT;injection NT with _ Z7
   show bK s ((S:Rat)*two p)+bK (decide (-n<0)) ((((-n).natAbs:Int):Rat)*two (0+-2))=_;rw[Z7];grind
  unfold cG;dsimp only[bN,fY,gJ,Bool.or_self,Bool.and_self];simp only[Bool.false_eq_true,if_false,Bool.false_and];by_cases z:cnt (bN s S p) (min p (0+-2))+cnt (fY (gJ (-n)) (-2)) (min p (0+-2))=0
  ·refine⟨_,0,min p (0+-2),ao z,?_⟩;rw[←VJ,z];rw[show (((0:Int):Rat)*two (min p (0+-2)))=0 from bF _];exact dG.mpr rfl
  ·refine⟨_,_,_,ag z,?_⟩;rw[←VJ];have:=lh (p:=min p (0+-2)) z;rw[kP] at this;injection this with _ k
 rw[e2] at VI ⊢;by_cases z:S'=0
 ·have hz:bC (bN s' S' p')=true:=by simp[bC,bN,z]
  rw[ao hz,kP];have q0:bK s ((S:Rat)*two p)-(n:Rat)/4=0:=by
   rw[←e3,dG,z];exact bF _
  rw[q0];show D.put .near s (bK s (((0:Int):Rat)*two 0))=_;congr 1;rw[dG];exact bF _
 ·have hz:¬bC (bN s' S' p')=true:=by simp[bC,bN,z]
  rw[ag hz,VI];refine kZ D _ _ _ ?_;rw[←e3,Ne,dG,ji];rintro(w | w)
  ·exact z (jH.mp w)
  ·exact jm _ w
end BF
namespace BF
open Lw
def K6 (b:Bool) (x:Nat):Nat:=if b=true then D.negate x else x
theorem Gi (t:Fmt) {x:Nat} (h:Ok t) (o:Out t x):(x:Int)=ij t x (decide (aU t≤(x:Int))):=by
 have hx:=eA h o;unfold ij;rw[jb t hx,Iq t hx];cases k:t.isNan x
 ·simp only[aO,aM];have ⟨ex,hX⟩:=jn t x hx
  conv=>lhs;rw[ex]
  rw[km,uZ]
 ·simp only[aJ];rw[←dN,←Qq o k]
theorem TV {x:Nat} (o:Out D x) (b:Bool):(K6 b x:Int)=ij D x (decide (aU D≤(x:Int)) != b):=by
 unfold K6;cases b
 ·simp only[aO,aM,Bool.bne_false];exact Gi D cH o
 ·simp only[aJ,Bool.bne_true];exact negate_eq D (eA cH o)
def yV:List Nat:=COSINE.drop 1
def BM (x:Nat):Nat:=D.ofKind .near (beyond (qj x) (BL x)).kind
def ph (m:Mode) (ME:Int) (f:Nat):Nat :=
 if ME%2=0 then D.mul m (K6 (decide (ME=2)) f) (horner (D.mul .near f f) SINE)
 else D.fma m (K6 (decide (ME=3)) (horner (D.mul .near f f) yV)) (D.mul .near f f) (K6 (decide (ME=3)) hZ)
theorem IC {x:Nat} {s:Bool} {q:Rat} (n:Num D x s q):BL x=(turnParts q).1∧BM x=D.put .near s (turnParts q).2:=by
 obtain⟨X,e1,r,e2⟩:=n.repr;obtain⟨S,p,e,hp,hS,hq,_⟩:=Au n;have r52:Repr D (2^52) QC:=⟨Ke,by decide +kernel⟩;have hX:=lK r.1 (dC D);have c:QC≤x%D.sign↔2^52≤size q:=by
  have:=lV r r52;have hm:x%D.sign=X:=by rw[e1];exact wc hX
  rw[hm,←Nat.not_lt,←this,dZ]
 unfold BM BL qj turnParts;by_cases k:2^52≤size q
 ·rw[ao (c.mpr k),ao k,e];have e0:eJ (bN s 0 0).neg (dq .near (fY (bN s 0 0) 2))=0:=by
   have:dq .near (fY (bN s 0 0) 2)=0:=by
    unfold dq fY bN;rw[ao (show (0:Int)≤0+2 by decide)];exact Int.zero_mul _
   rw[this];unfold eJ;split<;>rfl
  show eJ (bN s 0 0).neg (dq .near (fY (bN s 0 0) 2))=0∧D.ofKind .near (beyond (bN s 0 0) (eJ (bN s 0 0).neg (dq .near (fY (bN s 0 0) 2)))).kind=D.put .near s 0;rw[e0];refine⟨rfl,?_⟩;rw[wm Ke];congr 1;have z1:bK s (((0:Int):Rat)*two 0)=0:=by rw[dG];exact bF _
  rw[z1];show (0:Rat)-0/4=0;grind
 ·rw[ag fun z=>k (c.mp z),ag k,e];have e0:eJ (bN s S p).neg (dq .near (fY (bN s S p) 2))=nearestEven (4*q):=by
   have:=(mJ .near (u:=fY (bN s S p) 2) hS).1;have e4:bK s ((S:Rat)*two (p+2))=4*q:=by
    rw[hq,aY,show two 2=4 from rfl,←bV,←mF];grind
   rw[←e4];exact this.symm
  rw[e0];refine⟨rfl,?_⟩;rw[wm hS,←hq]
theorem TX (m:Mode) {x:Nat} {s:Bool} {q:Rat} (n:Num D x s q):sinTurn m x=ph m ((BL x+0)%4) (BM x)∧cosTurn m x=ph m ((BL x+1)%4) (BM x):=by
 have ⟨a,b⟩:=IC n;unfold sinTurn cosTurn;rw[n.kd];dsimp only;rw[←a];have key:∀N:Int,turnStep m N s (turnParts q).2=ph m (N%4) (BM x):=fun N=>by
  unfold turnStep ph;rw[←b];have h0:=Int.emod_nonneg N (show (4:Int)≠0 by decide);have h1:=Int.emod_lt_of_pos N (show (0:Int)<4 by decide);generalize N%4=k at *;dsimp only;by_cases p:k%2=0
  ·rw[ao p,ao p];have:decide (2≤k)=decide (k=2):=by
    by_cases z:k=2
    ·simp[z]
    ·simp[z];omega
   rw[this];rfl
  ·rw[ag p,ag p];have:decide (2≤k)=decide (k=3):=by
    by_cases z:k=3
    ·simp[z]
    ·simp[z];omega
   rw[this];rfl
 exact⟨by rw[key,Int.add_zero],key _⟩
def ko (u:Ex):Bool:=decide (0≤u.power)||decide (u.size%2^(-u.power).toNat=0)
def qH (u:Ex):Bool:=if 0<u.power then false else decide (u.size%2^(1-u.power).toNat=2^(-u.power).toNat)
theorem BN (q:Rat):isWhole q=true↔∃z:Int,q=z:=by
 unfold isWhole;rw[dF];constructor
 ·intro h;refine⟨q.num,?_⟩;have:=Hg q.num q.den;rw[Hh,h] at this;have e1:(q.num:Rat)/((1:Nat):Rat)=q.num:=by show (q.num:Rat)/1=q.num;rw[bQ];grind
  rw[e1] at this;exact this
 ·rintro⟨z,rfl⟩;exact Rat.den_intCast z
theorem QD (q:Rat):(isWhole q&&q.num%2 != 0)=true↔∃z:Int,q=z∧z%2=1:=by
 rw[b5,BN,bne_iff_ne];constructor
 ·rintro⟨⟨z,rfl⟩,h⟩;rw[Rat.num_intCast] at h;exact⟨z,rfl,Kk⟩
 ·rintro⟨z,rfl,h⟩;rw[Rat.num_intCast];exact⟨⟨z,rfl⟩,Kk⟩
theorem K7 {a b:Int} (ha:0≤a) (hb:0≤b):(2:Int)^(a+b).toNat=2^a.toNat*2^b.toNat:=by
 rw[Int.toNat_add ha hb,jk]
theorem N3 {s:Bool} {S p:Int}:isWhole (bK s ((S:Rat)*two p))=ko (bN s S p):=by
 have key:isWhole (bK s ((S:Rat)*two p))=true↔ko (bN s S p)=true:=by
  rw[BN];unfold ko bN;rw[bR,bj,bj];by_cases hp:0≤p
  ·refine⟨fun _=>.inl hp,fun _=>⟨eJ s (S*2^p.toNat),?_⟩⟩;rw[cX hp,←bh,kn]
  ·have e:(S:Rat)*two p*two (-p)=(S:Rat):=by rw[bV,←aY,show p+-p=0 by omega,dg,cI]
   have hm:(0:Int)≤-p:=by omega
   constructor
   ·rintro⟨z,hz⟩;refine .inr ?_;have h2:bK s (S:Rat)=((z*2^(-p).toNat:Int):Rat):=by
     rw[bh,←cX hm,←hz,mF,e]
    rw[kn,rE] at h2;have:S=eJ s z*2^(-p).toNat:=by
     unfold eJ at h2 ⊢;cases s
     ·simpa using h2
     ·simp only[aJ] at h2 ⊢;rw[Int.neg_mul];omega
    show S%2^(-p).toNat=0;rw[this];exact Int.mul_emod_left _ _
   ·rintro(h | h)
    ·exact absurd h hp
    ·refine⟨eJ s (S/2^(-p).toNat),?_⟩;have h3:S=S/2^(-p).toNat*2^(-p).toNat:=by
      have:=uW S (2^(-p).toNat);rw[show S%2^(-p).toNat=0 from h,iL] at this;omega
     rw[←kn];congr 1
     conv=>lhs;rw[h3]
     rw[bh,←cX hm,bV,←aY,show -p+p=0 by omega,dg,cI]
 exact kj.mpr key
theorem MF {s:Bool} {S p:Int} (hS:0≤S):(isWhole (bK s ((S:Rat)*two p))&&(bK s ((S:Rat)*two p)).num%2 != 0)=qH (bN s S p):=by
 refine kj.mpr ?_;rw[QD];unfold qH bN;have sg:∀z:Int,(eJ s z)%2=1↔z%2=1:=fun z=>by unfold eJ;cases s<;>simp<;>omega
 have ae5:∀z:Int,eJ s (eJ s z)=z:=fun z=>by unfold eJ;cases s<;>simp
 by_cases hp:0<p
 ·rw[ao hp];constructor
  ·rintro⟨z,hz,ho⟩;exfalso;rw[cX (bo hp),←bh,kn,rE] at hz;obtain⟨k,hk⟩:∃k,p.toNat=k+1:=⟨p.toNat-1,Kk⟩;have:z%2=1↔(S*2^p.toNat)%2=1:=by rw[←hz];exact sg _
   rw[hk,gz,←DN,Int.mul_emod_left] at this;omega
  ·intro h;cases h
 ·rw[ag hp,bj];have hm:(0:Int)≤-p:=by omega
  have e:(S:Rat)*two p*two (-p)=(S:Rat):=by rw[bV,←aY,show p+-p=0 by omega,dg,cI]
  have hP:=aX (-p).toNat;have zy:(2:Int)^(1-p).toNat=2^(-p).toNat*2:=by
   rw[show 1-p=-p+1 by omega,K7 hm Ke];rfl
  show _↔S%2^(1-p).toNat=2^(-p).toNat;rw[zy];constructor
  ·rintro⟨z,hz,ho⟩;have h2:bK s (S:Rat)=((z*2^(-p).toNat:Int):Rat):=by
    rw[bh,←cX hm,←hz,mF,e]
   rw[kn,rE] at h2;have h3:S=eJ s z*2^(-p).toNat:=by
    unfold eJ at h2 ⊢;cases s
    ·simpa using h2
    ·simp only[aJ] at h2 ⊢;rw[Int.neg_mul];omega
   have xK:=(sg z).mpr ho;generalize eJ s z=w at *;generalize (2:Int)^(-p).toNat=P at *;have h4:w=2*(w/2)+1:=by omega
   generalize w/2=v at *;have h5:S=P+(P*2)*v:=by rw[h3,h4];grind
   rw[h5,Int.add_mul_emod_self_left];exact Hv Kk Kk
  ·intro h;generalize hPP:(2:Int)^(-p).toNat=P at *;have h2:=uW S (P*2);rw[h] at h2;refine⟨eJ s (2*(S/(P*2))+1),?_,by rw[sg];omega⟩;have h3:S=(2*(S/(P*2))+1)*P:=by generalize S/(P*2)=v at *;grind
   rw[←kn];congr 1
   conv=>lhs;rw[h3]
   rw[bh,←hPP,←cX hm,bV,←aY,show -p+p=0 by omega,dg,cI]
end BF
namespace BF
open Lw
def hJ (t:Fmt) (x:Int):Bool:=decide (x%aU t=bE t)
def jV (m:Mode):Mode:=match m with
 | .down=>.up
 | .up=>.down
 | o=>o
def Gj (m:Mode) (x y:Nat):Int :=
 if (cp D x||cp D y)=true then nT D
 else if eC D y=true then hZ
 else if hJ D y=true then
  (if (x:Int)%aU D=hZ then hZ else if decide ((x:Int)%aU D<hZ)=decide (aU D≤(y:Int)) then bE D else 0)
 else
  let neg:=decide (aU D≤(x:Int))&&qH (ta D y)
  if (eC D x||hJ D x)=true then ws D neg (if eC D x=decide (aU D≤(y:Int)) then bE D else 0)
  else if (decide (aU D≤(x:Int))&&!ko (ta D y))=true then nT D
  else ws D neg (exp2 (if neg=true then jV m else m) (D.mul .near y (logb .near (x%D.sign))))
inductive Way (t:Fmt) (x:Nat):Prop
 | nan (h1:cp t x=true) (h2:t.kind x=.nan)
 | inf (s:Bool) (h0:cp t x=false) (h1:hJ t x=true) (h2:eC t x=false) (h3:t.kind x=.inf s) (h4:decide (aU t≤(x:Int))=s) (h5:ta t x=rK s) (h6:(x:Int)%aU t=bE t) (h7:x=t.inf s)
 | num (s:Bool) (X:Nat) (S p:Int) (h0:cp t x=false) (h1:hJ t x=false) (h2:eC t x=decide (S=0)) (h3:t.kind x=.num s (bK s ((S:Rat)*two p))) (h4:decide (aU t≤(x:Int))=s)
  (h5:ta t x=bN s S p) (h6:az t≤p) (h7:0≤S) (h8:Repr t ((S:Rat)*two p) X) (h9:x=pat t s X) (tW:(x:Int)%aU t=X)
theorem way (t:Fmt) (h:Ok t) {x:Nat} (hx:x<2*t.sign):Way t x:=by
 have hk:=cY t x hx;have hi:=gi t h;have hls:=dC t;rcases tf t hx with ⟨s,X,e1,h1,h2,e⟩ | ⟨s,e1,e⟩ | ⟨s,X,e1,hX,S,p,e,hp,hS,r,z⟩
 ·refine .nan ?_ (by rw[←hk,e];rfl);unfold cp;rw[e1,(iE (neg:=s) h1).1];exact dv h2
 ·have e2:x=pat t s (bE t).toNat:=by rw[e1];exact wd t h s
  have oU:(((bE t).toNat:Nat):Int)<aU t:=by omega
  have ⟨m1,m2⟩:=iE (neg:=s) oU;rw[←e2] at m1 m2;refine .inf s ?_ ?_ ?_ (by rw[←hk,e];rfl) m2 e Kk e1
  ·unfold cp;rw[m1];exact bS Kk
  ·unfold hJ;rw[m1];exact dv Kk
  ·unfold eC;rw[m1];exact bS Kk
 ·have oU:(X:Int)<aU t:=by omega
  have ⟨m1,m2⟩:=iE (neg:=s) oU;rw[←e1] at m1 m2;refine .num s X S p ?_ ?_ ?_ (by rw[←hk,e,kP]) m2 e hp hS r e1 m1
  ·unfold cp;rw[m1];exact bS Kk
  ·unfold hJ;rw[m1];exact bS Kk
  ·unfold eC;rw[m1];by_cases k:X=0
   ·rw[dv (z.mpr k)];exact dv Kk
   ·rw[bS fun w=>k (z.mp w)];exact bS Kk
theorem yW (t:Fmt):(t.inf false:Int)=bE t:=by rw[lU];rfl
theorem wo (t:Fmt):(t.zero false:Int)=0:=by rw[o8];rfl
theorem iV {s:Bool} {S p:Int}:bK s ((S:Rat)*two p)=0↔S=0:=by
 rw[dG,ji];constructor
 ·rintro(w | w)
  ·exact jH.mp w
  ·exact absurd w (jm _)
 ·intro k;rw[k];exact .inl rfl
theorem lW {s:Bool} {S p:Int} (h:0<S):(bK s ((S:Rat)*two p)<0)↔s=true:=by
 have vp:0<(S:Rat)*two p:=fF (fb.mpr h) (two_pos _);have e:=Bt (neg:=s) vp;constructor
 ·intro z;rw[dv z] at e;exact e.symm
 ·intro z;rw[z] at e ⊢;exact eV e
theorem Ff:Repr D 1 hZ:=⟨Ke,by decide +kernel⟩
theorem N4 (m:Mode) {x y:Nat} (hx:x<2*D.sign) (hy:y<2*D.sign):(power m x y:Int)=Gj m x y:=by
 unfold power Gj;have QE:((D.ofInt .near 1:Nat):Int)=(hZ:Int):=by rw[nW]
 rcases way D cH hx with ⟨x1,x2⟩ | ⟨s,x0,x1,x2,x3,x4,x5,x6,x7⟩ | ⟨s,X,S,p,x0,x1,x2,x3,x4,x5,x6,x7,x8,x9,Qk⟩
 ·rw[x1,x2];simp[dN]
 ·rcases way D cH hy with ⟨y1,y2⟩ | ⟨r,y0,y1,y2,y3,y4,y5,y6,y7⟩ | ⟨r,Y,T,q,y0,y1,y2,y3,y4,y5,y6,y7,y8,y9,y10⟩
  ·rw[y1,y2,x3];simp[dN]
  ·rw[x0,y0,y2,y1,y4,x6,x3,y3];simp only[eT,aO,aM,aJ];have i1:¬bE D=(hZ:Int):=by decide
   have i2:¬bE D<(hZ:Int):=by decide
   rw[ag i1];simp only[i2,k9];cases r
   ·simp[yW]
   ·simp[wo]
  ·rw[x0,y0,y2,y1,y4,x4,x2,x1,x3,y3,y5];simp only[eT,lL,Bool.or_true,aO,aM,aJ];by_cases k:T=0
   ·rw[ao (iV.mpr k),dv k,ao rfl];exact QE
   ·rw[ag fun z=>k (iV.mp z),bS k,ag dB];rw[MF y7];have hT:0<T:=by omega
    by_cases g:r=true
    ·rw[ao ((lW hT).mpr g),g];simp[o8]
    ·rw[ag fun z=>g ((lW hT).mp z)];have:r=false:=by cases r<;>simp_all
     rw[this];simp[lU]
 ·rcases way D cH hy with ⟨y1,y2⟩ | ⟨r,y0,y1,y2,y3,y4,y5,y6,y7⟩ | ⟨r,Y,T,q,y0,y1,y2,y3,y4,y5,y6,y7,y8,y9,y10⟩
  ·rw[y1,y2,x3];simp[dN]
  ·rw[x0,y0,y2,y1,y4,Qk,x3,y3];simp only[eT,aO,aM,aJ];have hv:size (bK s ((S:Rat)*two p))=(S:Rat)*two p:=Iu s (qg x8);rw[hv];have c1:=lV x8 Ff;have c2:=lV Ff x8;have c3:(S:Rat)*two p=1↔(X:Int)=(hZ:Int):=by
    constructor
    ·intro z;have a1:¬X<hZ:=fun w=>by have:=c1.mpr w;grind
     have a2:¬hZ<X:=fun w=>by have:=c2.mpr w;grind
     omega
    ·intro z;have a1:¬(S:Rat)*two p<1:=fun w=>by have:=c1.mp w;omega
     have a2:¬1<(S:Rat)*two p:=fun w=>by have:=c2.mp w;omega
     grind
   by_cases k:(X:Int)=(hZ:Int)
   ·rw[ao (c3.mpr k),ao k];exact QE
   ·rw[ag fun z=>k (c3.mp z),ag k];have c4:decide ((S:Rat)*two p<1)=decide ((X:Int)<(hZ:Int)):=by
     by_cases w:X<hZ
     ·rw[dv (c1.mpr w),dv Kk]
     ·rw[bS fun z=>w (c1.mp z),bS Kk]
    rw[c4];by_cases w:decide ((X:Int)<(hZ:Int))=r
    ·rw[ao w,ao w];exact yW D
    ·rw[ag w,ag w];exact wo D
  ·rw[x0,y0,y2,y1,y4,x4,x2,x1,x3,y3,y5];simp only[eT,HB,aO,aM];by_cases k:T=0
   ·rw[ao (iV.mpr k),dv k,ao rfl];exact QE
   ·rw[ag fun z=>k (iV.mp z),bS k,ag dB];rw[MF y7,N3];have hT:0<T:=by omega
    by_cases e:S=0
    ·rw[ao (iV.mpr e),dv e,ao rfl];by_cases g:r=true
     ·rw[ao ((lW hT).mpr g),g];simp[lU]
     ·rw[ag fun z=>g ((lW hT).mp z)];have:r=false:=by cases r<;>simp_all
      rw[this];simp[o8]
    ·rw[ag fun z=>e (iV.mp z),bS e,ag dB];have hS:0<S:=by omega
     by_cases w:s=true∧ko (bN r T q)=false
     ·rw[ao w,ao (by rw[w.1,w.2];rfl)];exact dN D
     ·have w':¬(s&&!ko (bN r T q))=true:=by
       intro z;apply w;simpa using z
      rw[ag w,ag w'];have TY:D.abs x=x%D.sign:=by
       unfold Fmt.abs;rw[←jb D hx,x0,ag Ke]
      rw[TY];have hX:=lK x8.1 (dC D);have QF:x%D.sign=X:=by rw[x9];exact wc hX
      have nX:Num D (x%D.sign) false ((S:Rat)*two p):=by
       rw[QF];have ep:X=pat D false X:=by unfold pat;simp
       refine⟨by rw[ep];exact lT D false hX,?_⟩
       conv=>lhs;rw[ep]
       exact mH x8 false
      have vp:0<(S:Rat)*two p:=fF (fb.mpr hS) (two_pos _);obtain⟨sl,v,nl⟩:=QB nX vp;generalize logb .near (x%D.sign)=L at *;have oz:Out D (D.mul .near y L):=by unfold Fmt.mul;exact ft D cH _ _
      have hz:D.isNan (D.mul .near y L)=false:=by
       unfold Fmt.mul;rw[y3,nl.kd];simp only[timesKinds,Fmt.ofKind];obtain⟨s',X',e',KU⟩:=F9 D cH .near (r != sl) (bK r ((T:Rat)*two q)*v);rw[e',iF D s' (qZ KU (dC D))];exact bS Kk
      generalize D.mul .near y L=Z at *;obtain⟨E,eE,hE⟩:=NY (if (s&&qH (bN r T q))=true then jV m else m) (eA cH oz) hz;have Z8:=qZ hE (dC D);cases Bw:(s&&qH (bN r T q))
      ·rw[Bw] at eE;simp only[aO,aM] at eE ⊢;rw[eE];unfold ws;simp
      ·rw[Bw] at eE;simp only[aJ] at eE ⊢;show ((D.negate (exp2 (jV m) Z):Nat):Int)=ws D true ((exp2 (jV m) Z:Nat):Int);rw[eE,negate_eq D (lT D false Z8)];have ⟨m1,m2⟩:=iE (neg:=false) Z8;unfold ij cp;rw[m1,m2,bS (show ¬bE D<(E:Int) by omega)];simp only[aO,aM,fS];congr 1;rw[km];rfl
end BF
namespace BF
open Lw
theorem qk (k:Int):ten k=(10:Rat)^k:=by
 unfold ten;split
 ·next h =>
  obtain⟨n,rfl⟩:=aA h;rw[aN,nF]
 ·next h =>
  have e:k=-((-k).toNat:Int):=by omega
  conv=>rhs;rw[e,Rat.zpow_neg,nF]
  rw[bQ,jh]
theorem jD (k:Int):0<ten k:=by rw[qk];exact Rat.zpow_pos Ke
theorem pj (a b:Int):ten (a+b)=ten a*ten b:=by
 rw[qk,qk,qk];exact Rat.zpow_add Ke a b
theorem jW:ten 0=1:=by rw[qk];exact Rat.zpow_zero 10
theorem QG:ten 1=10:=by rw[qk];exact Rat.zpow_one 10
theorem BO (n:Nat):ten (n:Int)=((10^n:Nat):Rat):=by
 rw[qk,nF,G2];rfl
theorem tj (k:Int):ten (k+1)=10*ten k:=by rw[pj,QG,fc]
theorem BP (k:Int):ten (-k)*ten k=1:=by rw[←pj];rw[show -k+k=0 by omega,jW]
theorem ql {a b:Int} (h:a≤b):ten a≤ten b:=by
 obtain⟨n,e⟩:=aA (show 0≤b-a by omega);have:b=a+(n:Int):=by omega
 rw[this,pj];have h1:(1:Rat)≤ten (n:Int):=by
  rw[BO];have:1≤10^n:=Nat.one_le_pow _ _ Ke;exact dQ.mpr this
 have:=gw h1 (cC (jD a));rw[cI] at this;exact this
theorem T1 {a b:Int} (h:a<b):ten a<ten b:=by
 have h1:=ql (show a+1≤b by omega);rw[tj] at h1;have:=jD a;grind
theorem jX {a b:Int}:ten a<ten b↔a<b:=by
 constructor
 ·intro h;by_cases q:a<b
  ·exact q
  ·have:=ql (show b≤a by omega);grind
 ·exact T1
theorem ID {a b:Rat} (k:Int):a*ten k≤b*ten k↔a≤b :=
 ⟨fun h=>J9 h (jD k),fun h=>j4 h (cC (jD k))⟩
theorem jY {a b:Rat} (k:Int):a*ten k<b*ten k↔a<b:=zw (jD k)
theorem K8:∀L:Nat,L≤1100→(10^((L:Int)*30103/100000-1).toNat≤2^L∧2^(L+1)≤10^((L:Int)*30103/100000+2).toNat):=by
 have:(List.range 1101).all (fun L=>decide (10^((L:Int)*30103/100000-1).toNat≤2^L∧2^(L+1)≤10^((L:Int)*30103/100000+2).toNat))=true:=by decide +kernel
 intro L hL;exact eV (nB.mp this L (oO.mpr Kk))
theorem IE:∀L:Nat,L≤1100→0<L→(2^L≤10^(-((-(L:Int))*30103/100000-1)).toNat∧((-((-(L:Int))*30103/100000+2)≤0)∨10^(-((-(L:Int))*30103/100000+2)).toNat≤2^(L-1))):=by
 have:(List.range 1101).all (fun L=>decide (0<L→(2^L≤10^(-((-(L:Int))*30103/100000-1)).toNat∧((-((-(L:Int))*30103/100000+2)≤0)∨10^(-((-(L:Int))*30103/100000+2)).toNat≤2^(L-1)))))=true:=by decide +kernel
 intro L hL;exact eV (nB.mp this L (oO.mpr Kk))
theorem mO {k:Int} (h:0≤k):ten k=((10^k.toNat:Nat):Rat):=by
 obtain⟨n,rfl⟩:=aA h;rw[aN];exact BO n
theorem ow {L:Int} (h1:-1100≤L) (h2:L≤1100):ten (L*30103/100000-1)≤two L∧two (L+1)≤ten (L*30103/100000+2):=by
 by_cases h:0≤L
 ·obtain⟨n,rfl⟩:=aA h;have ⟨a,b⟩:=K8 n Kk;have hk:0≤(n:Int)*30103/100000:=by omega
  constructor
  ·by_cases q:0≤(n:Int)*30103/100000-1
   ·rw[mO q,dM];exact dQ.mpr a
   ·have e1:=ql (show (n:Int)*30103/100000-1≤0 by omega);have e2:=gr (show (0:Int)≤n by omega);rw[jW] at e1;rw[dg] at e2;grind
  ·rw[show (n:Int)+1=((n+1:Nat):Int) from rfl,dM,mO Kk];exact dQ.mpr b
 ·obtain⟨n,hn⟩:=aA (show 0≤-L by omega);have hL:L=-(n:Int):=by omega
  subst hL;have ⟨a,b⟩:=IE n Kk Kk;have i1:∀k:Nat,two (-(k:Int))*((2^k:Nat):Rat)=1:=fun k=>by rw[←dM];exact oX _
  generalize hk:-(n:Int)*30103/100000=k at *;have P5:k<0:=by omega
  constructor
  ·have e1:ten (k-1)*ten (-(k-1))=1:=by rw[fc];exact BP _
   have e2:((2^n:Nat):Rat)≤ten (-(k-1)):=by rw[mO Kk];exact dQ.mpr a
   have e3:=i1 n;have p1:=jD (k-1);have p2:=two_pos (-(n:Int));have e4:=gw e2 (cC p1);rw[e1] at e4;have e5:=gw e4 (cC p2);have e6:two (-(n:Int))*(ten (k-1)*((2^n:Nat):Rat))=ten (k-1)*(two (-(n:Int))*((2^n:Nat):Rat)):=by grind
   rw[e6,e3,cI,cI] at e5;exact e5
  ·rcases b with b | b
   ·have e1:=ql (show 0≤k+2 by omega);have e2:=gr (show -(n:Int)+1≤0 by omega);rw[jW] at e1;rw[dg] at e2;grind
   ·by_cases q:0≤k+2
    ·have e1:=ql q;have e2:=gr (show -(n:Int)+1≤0 by omega);rw[jW] at e1;rw[dg] at e2;grind
    ·have e1:ten (k+2)*ten (-(k+2))=1:=by rw[fc];exact BP _
     have e2:ten (-(k+2))≤((2^(n-1):Nat):Rat):=by rw[mO Kk];exact dQ.mpr b
     have e3:=i1 (n-1);rw[show -((n-1:Nat):Int)=-(n:Int)+1 by omega] at e3;have p1:=jD (k+2);have p2:=two_pos (-(n:Int)+1);have e4:=gw e2 (cC p1);rw[e1] at e4;have e5:=gw e4 (cC p2);have e6:two (-(n:Int)+1)*(ten (k+2)*((2^(n-1):Nat):Rat))=ten (k+2)*(two (-(n:Int)+1)*((2^(n-1):Nat):Rat)):=by grind
     rw[e6,e3,cI,cI] at e5;exact e5
theorem nY {q:Rat} (hq:0<q) (h1:-1100≤log2 q) (h2:log2 q≤1100):ten (log10 q)≤q∧q<ten (log10 q+1):=by
 have ⟨a,b⟩:=g7 hq;have ⟨c,d⟩:=ow h1 h2;unfold log10;dsimp only;generalize log2 q*30103/100000=k at *;split
 ·next h=>rw[show k-1+1=k by omega];exact⟨by grind,h⟩
 ·next h =>
  split
  ·next h3=>exact⟨h3,by rw[show k+1+1=k+2 by omega];grind⟩
  ·next h3=>exact⟨by grind,by grind⟩
theorem N5 {q:Rat} {k:Int} (hq:0<q) (h1:-1100≤log2 q) (h2:log2 q≤1100) (h3:ten k≤q) (h4:q<ten (k+1)):log10 q=k:=by
 have ⟨a,b⟩:=nY hq h1 h2;have c:=jX.mp (show ten k<ten (log10 q+1) by grind);have d:=jX.mp (show ten (log10 q)<ten (k+1) by grind);omega
theorem kQ (w:Rat) (z:Int):nearestEven w=z↔((z:Rat)-1/2<w∨(z%2=0∧w=(z:Rat)-1/2))∧(w<(z:Rat)+1/2∨(z%2=0∧w=(z:Rat)+1/2)):=by
 unfold nearestEven;dsimp only;have f1:=Rat.floor_le (w+1/2);have f2:=Rat.lt_floor_add_one (w+1/2);rw[Rat.intCast_add] at f2;have f2':w+1/2<((w+1/2).floor:Rat)+1:=f2;clear f2;generalize (w+1/2).floor=n at *;have T2:∀a b:Int,(a:Rat)<(b:Rat)+1→a≤b:=fun a b h=>by
  have:(a:Rat)<((b+1:Int):Rat):=by rw[dI];exact h
  have:=mC.mp this;omega
 have cm:((n-1:Int):Rat)=(n:Rat)-1:=by rw[nD];rfl
 by_cases h:(n:Rat)=w+1/2∧n%2≠0
 ·rw[ao h];obtain⟨h1,h2⟩:=h;constructor
  ·rintro rfl;rw[cm];exact⟨.inl (by grind),.inr ⟨Kk,by grind⟩⟩
  ·rintro⟨a,b⟩;have z1:z≤n:=T2 z n (by grind);have z2:n≤z+1:=by
    have:=T2 n (z+1) (by rw[dI];show _<(z:Rat)+1+1;grind);exact this
   by_cases e:z=n
   ·subst e;rcases a with a | a
    ·grind
    ·omega
   ·omega
 ·rw[ag h];constructor
  ·rintro rfl;refine⟨?_,.inl (by grind)⟩;by_cases e:(n:Rat)=w+1/2
   ·exact .inr ⟨qS fun k=>absurd ⟨e,k⟩ h,by grind⟩
   ·exact .inl (by grind)
  ·rintro⟨a,b⟩;have z1:z≤n:=T2 z n (by grind);have z2:n≤z+1:=T2 n (z+1) (by rw[dI];show _<(z:Rat)+1+1;grind);by_cases e:n=z
   ·exact e
   ·have e':n=z+1:=by omega
    subst e';rw[dI] at f1;have f1':(z:Rat)+1≤w+1/2:=f1;have hw:w=(z:Rat)+1/2:=by rcases b with b | b<;>grind
    rcases b with b | b
    ·grind
    ·exfalso;apply h;refine⟨by rw[dI];show (z:Rat)+1=_;grind,Kk⟩
end BF
namespace BF
open Lw
def mP (t:Fmt) (S p:Int):Rat:=if S=2^t.m∧az t<p then (S:Rat)-1/4 else (S:Rat)-1/2
def Within (t:Fmt) (S p:Int) (v:Rat):Prop :=
 (mP t S p*two p<v∨(S%2=0∧v=mP t S p*two p))∧(v<((S:Rat)+1/2)*two p∨(S%2=0∧v=((S:Rat)+1/2)*two p))
structure Norm (t:Fmt) (S p:Int) (X:Nat):Prop where
 s0:0<S
 s1:S<2^(t.m+1)
 p0:az t≤p
 s2:az t<p→2^t.m≤S
 x:(X:Int)=(p-az t)*2^t.m+S
 xi:(X:Int)<bE t
theorem IF (t:Fmt):((2^t.m:Int):Rat)=two (t.m:Int):=(gd t.m).symm
theorem qm (t:Fmt) (h:Ok t) {S p:Int} {X:Nat} (N:Norm t S p X) {v:Rat} (hv:0<v):t.round .near v=X↔Within t S p v:=by
 obtain⟨neg,n,d,n0,d0,eQ,BI⟩:=o4 v;have Bw:neg=false:=by rw[BI (by grind)];exact bS (by grind)
 subst Bw;have uX:0<n:=by
  refine xE.mpr ⟨n0,fun z=>?_⟩;rw[←z] at eQ;have:v=0:=by rw[eQ,dG];show (0:Rat)/d*two 0=0;rw[bQ,bF,bF]
  grind
 obtain⟨c,j,_,e1,e2,c1,c2,_,hr⟩:=jS t h .near false (power:=0) uX d0;rw[←eQ] at e1 e2 hr;have hi:=gi t h;have W0:t.round .near v=X↔(c:Rat)*two (az t+j)=(S:Rat)*two p:=by
  have hX:X=(p-az t).toNat*2^t.m+S.toNat:=by
   have e3:(((p-az t).toNat*2^t.m+S.toNat:Nat):Int)=(p-az t)*2^t.m+S:=by
    rw[cJ,eS,bO,fC (by have:=N.p0;omega),fC (by have:=N.s0;omega)]
   have:=N.x;omega
  have N6:S.toNat≤2^(t.m+1):=by have:=N.s1;have:=bO (t.m+1);omega
  have W2:0<(p-az t).toNat→2^t.m≤S.toNat:=fun z=>by have:=N.s2 Kk;have:=bO t.m;omega
  have g1:=rL t N6 W2;rw[←hX] at g1;have g2:=rL t c1 c2;have v1:(S:Rat)*two p=(gv t X:Rat)*two (az t):=by
   rw[g1,eF,←dM,fC (by have:=N.p0;omega),bV,←aY,show p-az t+az t=p by omega];congr 1;rw[←bu,fC (by have:=N.s0;omega)]
  have v2:(c:Rat)*two (az t+j)=(gv t (j*2^t.m+c):Rat)*two (az t):=by
   rw[g2,eF,←dM,bV,←aY];congr 2;omega
  rw[v1,v2,fq,HD];have inj:gv t (j*2^t.m+c)=gv t X↔j*2^t.m+c=X:=by
   constructor
   ·intro z;rcases Nat.lt_trichotomy (j*2^t.m+c) X with w | w | w
    ·have:=Bx t w;omega
    ·exact w
    ·have:=Bx t w;omega
   ·intro z;rw[z]
  rw[inj];have hc:((j*2^t.m+c:Nat):Int)=(j:Int)*2^t.m+c:=by rw[cJ,eS,bO]
  have xi:=N.xi;constructor
  ·intro z;rw[z] at hr;unfold ws at hr;simp only[aO,aM,Mode.beyond,aJ] at hr;split at hr<;>omega
  ·intro z;have:((t.round .near v:Nat):Int)=(X:Int):=by
    rw[hr];unfold ws;simp only[aO,aM];rw[ag Kk];omega
   exact i7 this
 rw[W0];have ⟨l1,l2⟩:=g7 hv;rw[oZ] at e1;have hw:(eJ false (c:Int))=(c:Int):=rfl;rw[hw] at e2;have iY:nearestEven (v/two (az t+j))=(c:Int):=e2;have nI:=(kQ (v/two (az t+j)) (c:Int)).mp iY;rw[bu] at nI;generalize hu:az t+(j:Int)=u at *;have vw:v=v/two u*two u:=(vi (jm u)).symm;generalize v/two u=w at *;have tm:=IF t;have N0:=N.s0;have N1:=N.s1;have Np:=N.p0;have N2:=N.s2;have hp2:(2:Int)^(t.m+1)=2*2^t.m:=by rw[gz];omega
 have hM:=aX t.m;have T3:(2:Int)^t.m%2=0:=by rw[E9 t h];omega
 have tp:=two_pos p;have SM:az t<p→((2^t.m:Int):Rat)≤(S:Rat):=fun z=>oW.mpr (N2 z);constructor
 ·intro e;by_cases up:u=p
  ·subst up;have W3:(c:Rat)=(S:Rat):=(fq _).mp e;have ecI:(c:Int)=S:=by
    rw[←bu] at W3;exact rE.mp W3
   rw[W3,ecI] at nI;unfold Within;constructor
   ·unfold mP;by_cases u5:S=2^t.m∧az t<u
    ·rw[ao u5];refine .inl ?_;have:log2 v=u+t.m:=by omega
     rw[this] at l1;have:two (u+(t.m:Int))=(S:Rat)*two u:=by rw[aY,←tm,u5.1,fc]
     rw[this] at l1;have:((S:Rat)-1/4)*two u<(S:Rat)*two u:=(cq _).mpr (by grind);grind
    ·rw[ag u5,vw,cq,fq];exact nI.1
   ·rw[vw,cq,fq];exact nI.2
  ·by_cases ul:u<p
   ·
    obtain⟨k,hk⟩:=aA (show 0≤p-u-1 by omega);have eI:(c:Int)=S*2^(k+1):=by
     have:(c:Rat)*two u=((S*2^(k+1):Int):Rat)*two u:=by
      rw[e,bh,←gd,bV,←aY];congr 2;omega
     have:=(fq _).mp this;rw[←bu] at this;exact rE.mp this
    have cb:(c:Int)≤2*2^t.m:=by have:=bO (t.m+1);omega
    have S2:=N2 Kk;have P5:k=0:=by
     refine qS fun z=>?_;have:(2:Int)^2≤2^(k+1):=gP Kk;have:S*2^2≤S*2^(k+1):=qD this Kk;omega
    subst P5;have hS:S=2^t.m:=by
     rw[show (2:Int)^(0+1)=2 from rfl] at eI;omega
    have u5:S=2^t.m∧az t<p:=⟨hS,Kk⟩;have pu:two p=2*two u:=by rw[←iU];congr 1;omega
    have cR:(c:Rat)=2*(S:Rat):=by
     rw[←bu,eI,bh,fc];rfl
    unfold Within mP;rw[ao u5];have eL:((S:Rat)-1/4)*two p=(2*(S:Rat)-1/2)*two u:=by rw[pu];grind
    constructor
    ·rw[eL,vw,cq,fq,←cR];rcases nI.1 with z | z
     ·exact .inl z
     ·exact .inr ⟨by rw[hS];exact T3,z.2⟩
    ·refine .inl ?_;have:log2 v≤u+t.m:=by omega
     have h3:=gr (show log2 v+1≤u+t.m+1 by omega);have h4:two (u+t.m+1)=(S:Rat)*two p:=by rw[hS,tm,←aY];congr 1;omega
     rw[h4] at h3;have:(S:Rat)*two p<((S:Rat)+1/2)*two p:=(cq _).mpr (by grind);grind
   ·exfalso;obtain⟨k,hk⟩:=aA (show 0≤u-p-1 by omega);have eI:S=(c:Int)*2^(k+1):=by
     have:(S:Rat)*two p=(((c:Int)*2^(k+1):Int):Rat)*two p:=by
      rw[←e,bh,←gd,bV,←aY,bu];congr 2;omega
     exact rE.mp ((fq _).mp this)
    have c3:(2:Int)^t.m≤c:=by have:=c2 Kk;have:=bO t.m;omega
    have:(2:Int)^1≤2^(k+1):=gP Kk;have:(c:Int)*2^1≤(c:Int)*2^(k+1):=qD this Kk;omega
 ·rintro⟨a,b⟩;have S1R:(S:Rat)≤two ((t.m:Int)+1)-1:=by
   have z:S≤2*2^t.m-1:=by omega
   have z2:=oW.mpr z;rw[nD,bh,tm] at z2;rw[iU];exact z2
  have vhi:v<two ((t.m:Int)+1)*two p:=by
   have:((S:Rat)+1/2)*two p<two ((t.m:Int)+1)*two p:=(cq _).mpr (by grind);rcases b with b | b<;>grind
  rw[←aY] at vhi;have lv:log2 v<t.m+1+p:=ej.mp (by grind);by_cases up:u=p
  ·subst up;have key:nearestEven w=S:=by
    rw[kQ];constructor
    ·unfold mP at a;by_cases u5:S=2^t.m∧az t<u
     ·rw[ao u5,vw,cq,fq] at a;refine .inl ?_;rcases a with a | a<;>grind
     ·rw[ag u5,vw,cq,fq] at a;exact a
    ·rw[vw,cq,fq] at b;exact b
   rw[iY] at key;rw[←key,bu]
  ·have ul:u<p:=by omega
   have gH:az t<p:=by omega
   have lv2:log2 v<p+t.m:=by omega
   have vlt:v<two (p+t.m):=by
    have:=gr (show log2 v+1≤p+t.m by omega);grind
   have hS:S=2^t.m:=by
    refine qS fun z=>?_;have z2:2^t.m+1≤S:=by have:=N2 gH;omega
    have z3:=oW.mpr z2;rw[dI,tm] at z3;have z3':two (t.m:Int)+1≤(S:Rat):=z3;unfold mP at a;rw[ag fun k=>z k.1] at a;have:two (t.m:Int)*two p<((S:Rat)-1/2)*two p:=(cq _).mpr (by grind);rw[←aY,show (t.m:Int)+p=p+t.m by omega] at this;rcases a with a | a<;>grind
   have u5:S=2^t.m∧az t<p:=⟨hS,gH⟩;unfold mP at a;rw[ao u5] at a;have vge:two (p+t.m-1)≤v:=by
    have ZT:=h.m1;have S2:(2:Rat)≤(S:Rat):=by
     have:(2:Int)^1≤2^t.m:=gP ZT;have:(2:Int)≤S:=by omega
     exact oW.mpr this
    have e3:two (p+t.m-1)=((S:Rat)*(1/2))*two p:=by
     have:(S:Rat)*two p=2*two (p+t.m-1):=by rw[←iU,hS,tm,←aY];congr 1;omega
     grind
    rw[e3];have:((S:Rat)*(1/2))*two p≤((S:Rat)-1/4)*two p:=(cB _).mpr (by grind);rcases a with a | a<;>grind
   have ae6:p+t.m-1<log2 v+1:=ej.mp (by grind);have hup:u=p-1:=by omega
   have pu:two p=2*two u:=by rw[←iU];congr 1;omega
   have key:nearestEven w=2*S:=by
    rw[kQ,bh];show ((2:Rat)*S-1/2<w∨_)∧(w<(2:Rat)*S+1/2∨_);have eL:((S:Rat)-1/4)*two p=(2*(S:Rat)-1/2)*two u:=by rw[pu];grind
    rw[eL,vw,cq,fq] at a;constructor
    ·rcases a with a | a
     ·exact .inl a
     ·exact .inr ⟨Kk,a.2⟩
    ·refine .inl ?_;have e5:two (p+t.m)=(2*(S:Rat))*two u:=by rw[aY,hS,tm,pu];grind
     rw[e5,vw,cq] at vlt;grind
   rw[iY] at key;have:(c:Rat)=2*(S:Rat):=by rw[←bu,key,bh];rfl
   rw[this,pu];grind
end BF
namespace BF
open Lw
def js (t:Fmt) (x:Nat) (q:Rat) (E:Int):Option Nat :=
 let d:=(q/ten E).floor.toNat;let back (c:Nat):Bool:=t.round .near ((c:Rat)*ten E)==x
 if back d=true then (if back (d+1)=true then some (nearer q E d (d+1)) else some d) else if back (d+1)=true then some (d+1) else none
theorem BQ (t:Fmt) (x:Nat) (q:Rat) (n:Nat):withDigits t x q n=(js t x q (log10 q-(n:Int)+1)).map fun d=>(d,log10 q-(n:Int)+1):=by
 unfold withDigits js;dsimp only;split
 ·split<;>rfl
 ·split<;>rfl
def xY (below M d:Int):Int:=if 2*M-(2*below+1)*d=0 then below+below%2 else if 2*M-(2*below+1)*d<0 then below else below+1
def between (L M H d:Int) (VO:Bool):Option Int :=
 let bf:=decide (L<M/d*d)||(VO&&decide (M/d*d=L));let af:=decide ((M/d+1)*d<H)||(VO&&decide ((M/d+1)*d=H))
 if (bf&&af)=true then some (xY (M/d) M d) else if bf=true then some (M/d) else if af=true then some (M/d+1) else none
theorem jZ {a b:Rat} {d:Int} (hd:0<d):a*(d:Rat)<b*(d:Rat)↔a<b:=zw (fb.mpr hd)
theorem N7 {a b:Rat} {d:Int} (hd:0<d):a*(d:Rat)=b*(d:Rat)↔a=b:=by
 have rf:(0:Rat)<d:=fb.mpr hd;constructor
 ·intro h;have h1:=(jZ (a:=a) (b:=b) hd);have h2:=(jZ (a:=b) (b:=a) hd);have n1:¬a<b:=fun z=>by have:=h1.mpr z;grind
  have n2:¬b<a:=fun z=>by have:=h2.mpr z;grind
  grind
 ·intro h;rw[h]
theorem wt {a L unit d low:Int} {E p2:Int} (hd:0<d) (hu:(unit:Rat)*ten E=two p2*d) (hL:L=low*unit) :
  (L<a*d↔(low:Rat)*two p2<(a:Rat)*ten E)∧(a*d<L↔(a:Rat)*ten E<(low:Rat)*two p2)∧(a*d=L↔(a:Rat)*ten E=(low:Rat)*two p2):=by
 have e1:(L:Rat)*ten E=(low:Rat)*two p2*d:=by rw[hL,bh,bV,hu];grind
 have e2:((a*d:Int):Rat)*ten E=(a:Rat)*ten E*d:=by rw[bh];grind
 refine⟨?_,?_,?_⟩
 ·rw[←mC,←jY E,e1,e2,jZ hd]
 ·rw[←mC,←jY E,e1,e2,jZ hd]
 ·rw[←N7 hd,←e1,←e2];constructor
  ·intro z;rw[z]
  ·intro z;have n1:¬(a*d)<L:=fun w=>by have:=(jY E).mpr (mC.mpr w);grind
   have n2:¬L<(a*d):=fun w=>by have:=(jY E).mpr (mC.mpr w);grind
   omega
theorem yX (t:Fmt) (h:Ok t) {S p:Int} {X:Nat} (N:Norm t S p X) {E unit d:Int} (hE:ten E≤(S:Rat)*two p) (d0:0<d) (hu:(unit:Rat)*ten E=two (p-2)*d) :
  between ((4*S-(if S=2^t.m∧az t<p then 1 else 2))*unit) (4*S*unit) ((4*S+2)*unit) d (decide (S%2=0))=(js t X ((S:Rat)*two p) E).map Int.ofNat:=by
 have p4:two p=4*two (p-2):=by
  have:two p=two 2*two (p-2):=by rw[←aY];congr 1;omega
  rw[this];rfl
 have tp:=two_pos (p-2);have tE:=jD E;have vM:((4*S:Int):Rat)*two (p-2)=(S:Rat)*two p:=by rw[bh,p4];show (4:Rat)*S*_=_;grind
 have vH:((4*S+2:Int):Rat)*two (p-2)=((S:Rat)+1/2)*two p:=by rw[dI,bh,p4];show ((4:Rat)*S+2)*_=_;grind
 have vL:((4*S-(if S=2^t.m∧az t<p then 1 else 2):Int):Rat)*two (p-2)=mP t S p*two p:=by
  unfold mP;rw[nD,bh,p4];split
  ·show ((4:Rat)*S-1)*_=_;grind
  ·show ((4:Rat)*S-2)*_=_;grind
 generalize VP:(4*S-(if S=2^t.m∧az t<p then 1 else 2):Int)=low at *;generalize hb:4*S*unit/d=b;have cM1:=wt (a:=b) (L:=4*S*unit) (low:=4*S) d0 hu rfl;have cM2:=wt (a:=b+1) (L:=4*S*unit) (low:=4*S) d0 hu rfl;rw[vM] at cM1 cM2;have b1:(b:Rat)*ten E≤(S:Rat)*two p:=by
  refine dZ.mp fun z=>?_;have:=cM1.1.mpr z;have h2:=Int.ediv_mul_le (4*S*unit) (jz d0);rw[hb] at h2;omega
 have b2:(S:Rat)*two p<((b+1:Int):Rat)*ten E:=by
  refine cM2.1.mp ?_;have h2:=Int.lt_ediv_add_one_mul_self (4*S*unit) d0;rw[hb] at h2;exact h2
 have WR:((S:Rat)*two p/ten E).floor=b:=by
  refine gL ?_ ?_
  ·refine dZ.mp fun z=>?_;rw[iO tE] at z;grind
  ·rw[iO tE];have:((b+1:Int):Rat)=(b:Rat)+1:=dI b 1;rw[←this];exact b2
 have aac:0<b:=by
  have:ten E<((b+1:Int):Rat)*ten E:=by grind
  have h1:(1:Rat)*ten E<((b+1:Int):Rat)*ten E:=by rw[jh];exact this
  have:=(jY E).mp h1;have:((1:Int):Rat)<((b+1:Int):Rat):=this;have:=mC.mp this;omega
 obtain⟨n,hn⟩:=aA (bo aac);subst hn;have cn:(((n:Nat):Int):Rat)=(n:Rat):=bu n;have cn1:(((n:Int)+1:Int):Rat)=((n+1:Nat):Rat):=by rw[←bu];rfl
 rw[cn] at b1;rw[cn1] at b2;have QH:0<n:=by omega
 have S0:=N.s0;have W4:mP t S p*two p<(S:Rat)*two p:=by
  refine(cq _).mpr ?_;unfold mP;split<;>grind
 have Gk:(S:Rat)*two p<((S:Rat)+1/2)*two p:=(cq _).mpr (by grind);have W5:(t.round .near ((n:Rat)*ten E)==X)=(decide (low*unit<(n:Int)*d)||(decide (S%2=0)&&decide ((n:Int)*d=low*unit))):=by
  have c:=wt (a:=(n:Int)) (L:=low*unit) (low:=low) d0 hu rfl;rw[vL,cn] at c;have r:=qm t h N (v:=(n:Rat)*ten E) (fF (rg.mpr QH) tE);refine kj.mpr ?_;rw[dF,r,bR,bj,b5,bj,bj,c.1,c.2.2];unfold Within;constructor
  ·exact fun z=>z.1
  ·exact fun z=>⟨z,.inl (by grind)⟩
 have W6:(t.round .near (((n+1:Nat):Rat)*ten E)==X)=(decide (((n:Int)+1)*d<(4*S+2)*unit)||(decide (S%2=0)&&decide (((n:Int)+1)*d=(4*S+2)*unit))):=by
  have c:=wt (a:=(n:Int)+1) (L:=(4*S+2)*unit) (low:=4*S+2) d0 hu rfl;rw[vH,cn1] at c;have r:=qm t h N (v:=((n+1:Nat):Rat)*ten E) (fF (rg.mpr Kk) tE);refine kj.mpr ?_;rw[dF,r,bR,bj,b5,bj,bj,c.2.1,c.2.2];unfold Within;constructor
  ·exact fun z=>z.2
  ·exact fun z=>⟨.inl (by grind),z⟩
 have W7:(nearer ((S:Rat)*two p) E n (n+1):Int)=xY n (4*S*unit) d:=by
  unfold nearer xY;dsimp only;have s1:size ((n:Rat)*ten E-(S:Rat)*two p)=(S:Rat)*two p-(n:Rat)*ten E:=by
   unfold size;split<;>grind
  have s2:size (((n+1:Nat):Rat)*ten E-(S:Rat)*two p)=((n+1:Nat):Rat)*ten E-(S:Rat)*two p:=by
   unfold size;split<;>grind
  rw[s1,s2];have c:=wt (a:=2*(n:Int)+1) (L:=2*(4*S*unit)) (low:=2*(4*S)) d0 hu (by grind);have e3:((2*(n:Int)+1:Int):Rat)=(n:Rat)+((n+1:Nat):Rat):=by
   rw[←bu,←bu,←dI];exact rE.mpr Kk
  have e4:((2*(4*S):Int):Rat)*two (p-2)=2*((S:Rat)*two p):=by
   rw[bh,bV,vM];rfl
  rw[e3,e4,pN] at c;have g1:2*(4*S*unit)-(2*(n:Int)+1)*d=0↔(2*(n:Int)+1)*d=2*(4*S*unit):=by omega
  have g2:2*(4*S*unit)-(2*(n:Int)+1)*d<0↔2*(4*S*unit)<(2*(n:Int)+1)*d:=by omega
  by_cases k1:(2*(n:Int)+1)*d=2*(4*S*unit)
  ·have k1':=c.2.2.mp k1;rw[ao (g1.mpr k1)];by_cases ev:n%2=0
   ·rw[ao (.inr ⟨by grind,ev⟩)];omega
   ·rw[ag]
    ·omega
    ·rintro(z | z)
     ·grind
     ·exact ev z.2
  ·rw[ag fun z=>k1 (g1.mp z)];by_cases k2:2*(4*S*unit)<(2*(n:Int)+1)*d
   ·have k2':=c.1.mp k2;rw[ao (g2.mpr k2),ao (.inl (by grind))]
   ·have k3:(2*(n:Int)+1)*d<2*(4*S*unit):=by omega
    have k3':=c.2.1.mp k3;rw[ag fun z=>k2 (g2.mp z),ag]
    ·rfl
    ·rintro(z | z)<;>grind
 unfold js between;dsimp only;simp only[WR,hb,Int.toNat_natCast,W5,W6];generalize (decide (low*unit<(n:Int)*d)||(decide (S%2=0)&&decide ((n:Int)*d=low*unit)))=B1;generalize (decide (((n:Int)+1)*d<(4*S+2)*unit)||(decide (S%2=0)&&decide (((n:Int)+1)*d=(4*S+2)*unit)))=B2;cases B1<;>cases B2<;>simp[←W7]
theorem found (t:Fmt) (h:Ok t) (hm:t.m≤52) {S p:Int} {X:Nat} (N:Norm t S p X) {E:Int} (hE:ten (E+16)≤(S:Rat)*two p):∃D,js t X ((S:Rat)*two p) E=some D:=by
 have tE:=jD E;have T4:ten (E+16)=10000000000000000*ten E:=by rw[pj,fc];rfl
 rw[T4] at hE;have tp:=two_pos p;have aae:=Rat.floor_le ((S:Rat)*two p/ten E);have VQ:=Rat.lt_floor_add_one ((S:Rat)*two p/ten E);have T5:(1:Rat)≤(S:Rat)*two p/ten E:=by
  refine dZ.mp fun z=>?_;rw[iO tE] at z;grind
 have Z4:1≤((S:Rat)*two p/ten E).floor:=Rat.le_floor_iff.mpr T5;unfold js;dsimp only;generalize hb:((S:Rat)*two p/ten E).floor=b at *;obtain⟨n,rfl⟩:=Int.eq_ofNat_of_zero_le (show 0≤b by omega);rw[Int.toNat_natCast];have b1:(n:Rat)*ten E≤(S:Rat)*two p:=by
  rw[bu] at aae;refine dZ.mp fun z=>?_;have:=(iO tE).mpr z;grind
 have b2:(S:Rat)*two p<((n+1:Nat):Rat)*ten E:=by
  have e:(((n:Int)+1:Int):Rat)=((n+1:Nat):Rat):=by rw[←bu];rfl
  rw[e] at VQ;exact(iO tE).mp VQ
 have e1:((n+1:Nat):Rat)*ten E=(n:Rat)*ten E+ten E:=by
  rw[xD,pN];show _+1*ten E=_;rw[jh]
 have QH:0<n:=by omega
 have r1:=qm t h N (v:=(n:Rat)*ten E) (fF (rg.mpr QH) tE);have r2:=qm t h N (v:=((n+1:Nat):Rat)*ten E) (fF (rg.mpr Kk) tE);have S0:=N.s0;have S1:=N.s1;have pw:(2:Int)^(t.m+1)≤2^53:=gP Kk;have pw2:(2:Int)^t.m≤2^52:=gP Kk;have SR:(S:Rat)≤9007199254740992:=by
  have:S≤9007199254740992:=by omega
  exact oW.mpr this
 have Sv:(S:Rat)*two p≤9007199254740992*two p:=(cB _).mpr SR;have Gk:(S:Rat)*two p+(1/2)*two p=((S:Rat)+1/2)*two p:=by grind
 have W4:mP t S p*two p<(S:Rat)*two p:=by
  refine(cq _).mpr ?_;unfold mP;split<;>grind
 by_cases u5:S=2^t.m∧az t<p
 ·have SR2:(S:Rat)≤4503599627370496:=by
   have:S≤4503599627370496:=by omega
   exact oW.mpr this
  have Sv2:(S:Rat)*two p≤4503599627370496*two p:=(cB _).mpr SR2;have ok:Within t S p (((n+1:Nat):Rat)*ten E):=by
   refine⟨.inl (by grind),.inl ?_⟩;rw[←Gk,e1];grind
  have QI:(t.round .near (((n+1:Nat):Rat)*ten E)==X)=true:=by rw[dF];exact r2.mpr ok
  simp only[QI,aJ];split<;>exact⟨_,rfl⟩
 ·have VP:mP t S p*two p=(S:Rat)*two p-(1/2)*two p:=by unfold mP;rw[ag u5];grind
  by_cases half:2*((S:Rat)*two p-(n:Rat)*ten E)≤ten E
  ·have ok:Within t S p ((n:Rat)*ten E):=by
    refine⟨.inl ?_,.inl ?_⟩
    ·rw[VP];grind
    ·rw[←Gk];grind
   have QI:(t.round .near ((n:Rat)*ten E)==X)=true:=by rw[dF];exact r1.mpr ok
   simp only[QI,aJ];split<;>exact⟨_,rfl⟩
  ·have ok:Within t S p (((n+1:Nat):Rat)*ten E):=by
    refine⟨.inl (by grind),.inl ?_⟩;rw[←Gk,e1];grind
   have QI:(t.round .near (((n+1:Nat):Rat)*ten E)==X)=true:=by rw[dF];exact r2.mpr ok
   simp only[QI,aJ];split
   ·exact⟨_,rfl⟩
   ·exact⟨_,rfl⟩
end BF
namespace BF
open Lw
theorem QJ (t:Fmt) (s:Bool) {X:Nat} (hX:(X:Int)<bE t) (h0:X≠0):∃S p,ta t (pat t s X)=bN s S p∧Norm t S p X:=by
 have oU:=lK hX (dC t);have ⟨h1,h2⟩:=iE (neg:=s) oU;have hM:=aX t.m;have hp:(2:Int)^(t.m+1)=2*2^t.m:=by rw[gz];omega
 unfold ta;dsimp only;rw[h1,h2,if_neg Kk,if_neg Kk];have hd:=Int.mul_ediv_add_emod (X:Int) (2^t.m);have r0:=Int.emod_nonneg (X:Int) (Int.ne_of_gt hM);have r1:=Int.emod_lt_of_pos (X:Int) hM;have f0:0≤(X:Int)/2^t.m:=Int.ediv_nonneg Kk (Int.le_of_lt hM);rw[Int.mul_comm] at hd;split
 ·next k =>
  rw[k] at hd;exact⟨_,_,rfl,Kk,Kk,oG _,Kk,by rw[Int.sub_self];omega,hX⟩
 ·next k =>
  refine⟨_,_,rfl,?_⟩;generalize (X:Int)/2^t.m=f at *;have e:(f-1)*2^t.m=f*2^t.m-2^t.m:=by rw[nL,de]
  exact⟨Kk,Kk,Kk,Kk,by rw[show az t+f-1-az t=f-1 by omega];omega,hX⟩
theorem K9 {t:Fmt} (h:Ok t) {S p:Int} {X:Nat} (N:Norm t S p X):az t≤log2 ((S:Rat)*two p)∧log2 ((S:Rat)*two p)<t.bias+1:=by
 have ⟨a,b⟩:=oY N.s0;rw[Iy N.s0];have hb1:1≤bl S:=by
  have:two 0≤(S:Rat):=by rw[dg];exact oW.mpr (by have:=N.s0;omega:(1:Int)≤S)
  have:=ej.mp (show two 0<two (bl S) by grind);omega
 refine⟨by have:=N.p0;omega,?_⟩;have hX:X=(p-az t).toNat*2^t.m+S.toNat:=by
  have e3:(((p-az t).toNat*2^t.m+S.toNat:Nat):Int)=(p-az t)*2^t.m+S:=by
   rw[cJ,eS,bO,fC (by have:=N.p0;omega),fC (by have:=N.s0;omega)]
  have:=N.x;omega
 have hM:=aX t.m;have N6:S.toNat≤2^(t.m+1):=by have:=N.s1;have:=bO (t.m+1);omega
 have W2:0<(p-az t).toNat→2^t.m≤S.toNat:=fun z=>by have:=N.s2 Kk;have:=bO t.m;omega
 have ov:=sY t h (c:=S.toNat) (j:=(p-az t).toNat) rfl N6 W2;have hp:az t+((p-az t).toNat:Int)=p:=by have:=N.p0;omega
 have hS:((S.toNat:Nat):Rat)=(S:Rat):=by rw[←bu,fC (by have:=N.s0;omega)]
 rw[hp,hS] at ov;have:¬two (t.bias+1)≤(S:Rat)*two p:=fun z=>by
  have:=ov.mp z;have:=N.xi;rw[hX,cJ,eS,bO] at this;omega
 have h2:two (bl S-1+p)≤(S:Rat)*two p:=by rw[aY];exact(cB _).mpr a
 exact ej.mp (by grind)
theorem wu (t:Fmt) (X:Nat) (q:Rat) {k:Nat} {d:Nat} (hk:k<17) (h1:∀i:Nat,i<k→js t X q (log10 q-i)=none) (h2:js t X q (log10 q-k)=some d):shortest t X q=stripped 20 d (log10 q-k):=by
 unfold shortest;have e:∀n:Nat,withDigits t X q (n+1)=(js t X q (log10 q-n)).map fun d=>(d,log10 q-(n:Int)):=fun n=>by
  rw[BQ];have:log10 q-((n+1:Nat):Int)+1=log10 q-n:=by omega
  rw[this]
 have f:(List.range 17).findSome? (fun (n:Nat)=>withDigits t X q (n+1))=some (d,log10 q-(k:Int)):=by
  rw[List.findSome?_eq_some_iff];refine⟨List.range k,k,(List.range (17-k-1)).map (k+1+·),?_,?_,?_⟩
  ·apply j8;intro i;by_cases c1:i<k
   ·rw[uk (by simpa using c1)];rw[oH Kk,oH Kk]
   ·rw[uh (by simpa using c1),rk];by_cases c2:i=k
    ·subst c2;rw[oH Kk];simp
    ·obtain⟨j,hj⟩:∃j,i-k=j+1:=⟨i-k-1,Kk⟩;rw[hj,List.getElem?_cons_succ,aT];by_cases c3:i<17
     ·rw[oH c3,oH Kk];simp;omega
     ·rw[eP (by simp;omega),eP (by simp;omega)];rfl
  ·show withDigits t X q (k+1)=_;rw[e,h2];rfl
  ·intro x hx;show withDigits t X q (x+1)=_;rw[e,h1 x (oO.mp hx)];rfl
 rw[f]
theorem IH {t:Fmt} {X:Nat} {q:Rat} {E:Int} {d:Nat} (hq:ten E≤q) (h:js t X q E=some d):0<d∧∀n:Nat,q<ten (E+n)→d≤10^n:=by
 have tE:=jD E;have T5:(1:Rat)≤q/ten E:=by
  refine dZ.mp fun z=>?_;rw[iO tE] at z;grind
 have Z4:1≤(q/ten E).floor:=zv.mpr T5;have hd:d=(q/ten E).floor.toNat∨d=(q/ten E).floor.toNat+1:=by
  unfold js at h;dsimp only at h;split at h
  ·split at h
   ·injection h with h
    unfold nearer at h;dsimp only at h;split at h<;>omega
   ·injection h with h;omega
  ·split at h
   ·injection h with h;omega
   ·cases h
 refine⟨Kk,fun n hn=>?_⟩;have:(q/ten E).floor<((10^n:Nat):Int):=by
  refine FR.mpr ?_;rw[iO tE,bu,←BO,←pj,Int.add_comm];exact hn
 omega
theorem strip_stop {f d:Nat} {e:Int} (h0:0<d) (h1:d<10^f) (h:d%10≠0):stripped f d e=(d,e):=by
 cases f with
 | zero=>simp at h1;omega
 | succ f=>unfold stripped;rw[ag h]
theorem strip_go {f d:Nat} {e:Int} (h0:0<d) (h1:d<10^f) (h:d%10=0):∃f',stripped f d e=stripped f' (d/10) (e+1)∧0<d/10∧d/10<10^f':=by
 cases f with
 | zero=>simp at h1;omega
 | succ f =>
  refine⟨f,by rw[stripped,ao h],Kk,?_⟩;rw[gZ] at h1;omega
def fZ (b:Bytes):Option Int:=match b with
 | []=>some 0
 | c::s=>if c≠101∧c≠69 then none else
  let x:=if s.head?=some 43∨s.head?=some 45 then s.drop 1 else s
  if x=[]∨3<x.length∨x.all isDigit=false then none
  else some (if s.head?=some 45 then -((numberOf x:Nat):Int) else ((numberOf x:Nat):Int))
def gR (b:Bytes):Option (Nat×Int) :=
 let w:=b.takeWhile isDigit
 match b.drop w.length with
 | 46::s =>
  let f:=s.takeWhile isDigit
  if f=[] then none else if w=[] then none else (fZ (s.drop f.length)).map fun e=>(numberOf (w++f),e-f.length)
 | r=>if w=[] then none else (fZ r).map fun e=>(numberOf w,e)
theorem BR (p:Bytes) (v:Rat):(match p with
  | []=>some v
  | c::s=>if c≠101∧c≠69 then none else
   let neg:=s.head?==some 45;let x:=if s.head?=some 45∨s.head?=some 43 then s.drop 1 else s
   if x.isEmpty=true∨x.all isDigit=false∨3<x.length then none else some (v*ten (if neg=true then -((numberOf x:Nat):Int) else ((numberOf x:Nat):Int))))=(fZ p).map fun e=>v*ten e:=by
 unfold fZ;cases p with
 | nil=>simp[jW,cI]
 | cons c s =>
  dsimp only;by_cases h:c≠101∧c≠69
  ·rw[ao h,ao h];rfl
  ·rw[ag h,ag h];have e1:(s.head?=some 45∨s.head?=some 43)↔(s.head?=some 43∨s.head?=some 45):=or_comm;simp only[e1];generalize (if s.head?=some 43∨s.head?=some 45 then s.drop 1 else s)=x;have e2:(x.isEmpty=true∨x.all isDigit=false∨3<x.length)↔(x=[]∨3<x.length∨x.all isDigit=false):=by
    rw[oI,or_comm (a:=x.all isDigit=false)]
   simp only[e2];have e3:(s.head?==some 45)=true↔s.head?=some 45:=dF;by_cases k:x=[]∨3<x.length∨x.all isDigit=false
   ·rw[ao k,ao k];rfl
   ·rw[ag k,ag k];simp only[e3,rp]
def Gm (r:Bytes):Bytes:=match r with
 | 46::s=>s.takeWhile isDigit
 | _=>[]
def La (r f:Bytes):Bytes:=match r with
 | 46::s=>if f.isEmpty=true then r else s.drop f.length
 | _=>r
theorem N9 {c:UInt8} {s:Bytes} (h:¬c=46):Gm (c::s)=[]:=by
 unfold Gm;split
 ·next e=>injection e with e1 _;exact absurd e1 h
 ·rfl
theorem Oa {c:UInt8} {s f:Bytes} (h:¬c=46):La (c::s) f=c::s:=by
 unfold La;split
 ·next e=>injection e with e1 _;exact absurd e1 h
 ·rfl
def BS (w f p:Bytes):Option Rat:=if w.isEmpty=true then none else (fZ p).map fun e=>((numberOf (w++f):Nat):Rat)*ten (-(f.length:Int))*ten e
theorem tX (b:Bytes):decimalValue b=BS (b.takeWhile isDigit) (Gm (b.drop (b.takeWhile isDigit).length)) (La (b.drop (b.takeWhile isDigit).length) (Gm (b.drop (b.takeWhile isDigit).length))):=by
 unfold decimalValue BS;dsimp only;split
 ·rfl
 ·rw[←BR];rfl
theorem yY {b:Bytes} {c:UInt8} {s:Bytes} (e:b.drop (b.takeWhile isDigit).length=c::s) (h:¬c=46) :
  gR b=if b.takeWhile isDigit=[] then none else (fZ (c::s)).map fun e=>(numberOf (b.takeWhile isDigit),e):=by
 unfold gR;dsimp only;rw[e];split
 ·next e=>injection e with e1 _;exact absurd e1 h
 ·rfl
theorem wx {b:Bytes} (e:b.drop (b.takeWhile isDigit).length=[]) :
  gR b=if b.takeWhile isDigit=[] then none else some (numberOf (b.takeWhile isDigit),0):=by
 unfold gR;dsimp only;rw[e];rfl
theorem yZ {b:Bytes} {s:Bytes} (e:b.drop (b.takeWhile isDigit).length=46::s) :
  gR b=if s.takeWhile isDigit=[] then none else if b.takeWhile isDigit=[] then none else (fZ (s.drop (s.takeWhile isDigit).length)).map fun (e:Int)=>(numberOf (b.takeWhile isDigit++s.takeWhile isDigit),e-((s.takeWhile isDigit).length:Int)):=by
 unfold gR;dsimp only;rw[e];rfl
theorem xZ (b:Bytes):decimalValue b=(gR b).map fun p=>(p.1:Rat)*ten p.2:=by
 rw[tX];cases hr:b.drop (b.takeWhile isDigit).length with
 | nil =>
  rw[wx hr];show BS _ [] []=_;unfold BS;by_cases k:b.takeWhile isDigit=[]
  ·rw[ao k,ao (by rw[k];rfl)];rfl
  ·rw[ag k,ag (by rw[oI];exact k),fW];show some (_*ten 0*ten 0)=some (_*ten 0);rw[jW,cI]
 | cons c s =>
  by_cases hc:c=46
  ·subst hc;rw[yZ hr];show BS _ (s.takeWhile isDigit) (if (s.takeWhile isDigit).isEmpty=true then 46::s else s.drop (s.takeWhile isDigit).length)=_;unfold BS;by_cases hf:s.takeWhile isDigit=[]
   ·rw[ao hf,hf];show (if _ then none else (fZ (46::s)).map _)=none;split
    ·rfl
    ·rfl
   ·rw[ag hf,ag (show ¬(s.takeWhile isDigit).isEmpty=true by rw[oI];exact hf)];by_cases k:b.takeWhile isDigit=[]
    ·rw[ao k,ao (by rw[k];rfl)];rfl
    ·rw[ag k,ag (by rw[oI];exact k)];cases fZ (s.drop (s.takeWhile isDigit).length) with
     | none=>rfl
     | some e =>
      simp only[rp];rw[bV,←pj];congr 3;omega
  ·rw[yY hr hc,N9 hc,Oa hc];unfold BS;by_cases k:b.takeWhile isDigit=[]
   ·rw[ao k,ao (by rw[k];rfl)];rfl
   ·rw[ag k,ag (by rw[oI];exact k),fW];cases fZ (c::s) with
    | none=>rfl
    | some e =>
     simp only[rp];show some (_*ten 0*_)=_;rw[jW,cI]
end BF
namespace BF
open Lw
theorem same_iff:∀a b:Bytes,same a b=true↔a=b
 | [],[]=>by simp[same]
 | [],_::_=>by simp[same]
 | _::_,[]=>by simp[same]
 | a::r,b::s=>by simp[same,same_iff r s]
def kq (t:Fmt) (m:Mode) (neg:Bool) (n:Nat) (e:Int):Int:=if 0≤e then Bs t m neg ((n:Int)*10^e.toNat) 1 0 else Bs t m neg n (10^(-e).toNat) 0
theorem MG (k:Nat):(0:Int)<10^k:=An Ke
theorem za {k:Int} (h:0≤k):ten k=((10^k.toNat:Int):Rat):=by
 rw[mO h,G2,Rat.intCast_pow];rfl
theorem II (t:Fmt) (h:Ok t) (m:Mode) (neg:Bool) (n:Nat) (e:Int):(t.put m neg (if neg=true then -((n:Rat)*ten e) else (n:Rat)*ten e):Int)=kq t m neg n e:=by
 unfold kq;show ((t.put m neg (bK neg ((n:Rat)*ten e)):Nat):Int)=_;split
 ·next k =>
  rw[←wa t h m neg (fH Kk (bo (MG _))) Ke];congr 3;rw[dg,cI,bh,←za k,bu];show _=_/(1:Rat);rw[bQ];grind
 ·next k =>
  rw[←wa t h m neg Kk (MG _)];congr 3;rw[dg,cI,←za (show 0≤-e by omega),bu];have:(ten (-e))⁻¹=ten e:=pR (BP e);rw[bQ,this]
def jo (t:Fmt) (m:Mode) (b:Bytes):Option Int :=
 if b=NAN then some (nT t) else
  let neg:=decide (b.take 1=[45]);let r:=if neg=true then b.drop 1 else b
  if r=INF then some (ws t neg (bE t)) else (gR r).map fun p=>kq t m neg p.1 p.2
theorem uv (t:Fmt) (h:Ok t) (m:Mode) (b:Bytes):(readFloat t m b).map (fun (x:Nat)=>(x:Int))=jo t m b:=by
 unfold readFloat jo;dsimp only;have e1:(b.head?==some 45)=decide (b.take 1=[45]):=by
  cases b with
  | nil=>rfl
  | cons c s =>
   simp only[List.head?_cons,List.take_succ_cons,DO];by_cases k:c=45
   ·subst k;rfl
   ·simp[k]
 rw[e1];generalize decide (b.take 1=[45])=neg;by_cases k:b=NAN
 ·rw[ao k,ao ((same_iff _ _).mpr k)];show some (t.nan:Int)=_;rw[dN]
 ·rw[ag k,ag fun z=>k ((same_iff _ _).mp z)];generalize (if neg=true then b.drop 1 else b)=r;by_cases k2:r=INF
  ·rw[ao k2,ao ((same_iff _ _).mpr k2)];show some (t.inf neg:Int)=_;rw[lU]
  ·rw[ag k2,ag fun z=>k2 ((same_iff _ _).mp z),xZ];cases gR r with
   | none=>rfl
   | some p =>
    simp only[rp];rw[II t h]
structure Rel (a:LongSum) (u:Ex):Prop where
 sz:0≤u.size
 nan:u.nan=(a.nan||(a.plus&&a.minus))
 inf:u.nan=false→u.inf=(a.plus||a.minus)
 sgn:u.nan=false→u.inf=true→u.neg=a.minus
 sum:u.nan=false→u.inf=false→bK u.neg ((u.size:Rat)*two u.power)=a.sum
theorem u6:Rel LongSum.empty (gJ 0):=by
 refine⟨Ke,rfl,fun _=>rfl,fun _ h=>(nomatch h),fun _ _=>?_⟩;show bK false (((0:Int):Rat)*two 0)=0;rw[dG];exact bF _
theorem bor {x y:Bool} (h:false=(x||y)):x=false∧y=false:=by revert h;cases x<;>cases y<;>decide
theorem aaf {x y:Bool} (h:true=(x||y)) (hx:x=false):y=true:=by revert h hx;cases x<;>cases y<;>decide
theorem aag {x y:Bool} (h:true=(x||y)) (hx:y=false):x=true:=by revert h hx;cases x<;>cases y<;>decide
theorem W8 {x y:Bool} (h:(x&&y)=false) (hx:x=true):y=false:=by revert h hx;cases x<;>cases y<;>decide
theorem W9 {x y:Bool} (h:(x&&y)=false) (hy:y=true):x=false:=by revert h hy;cases x<;>cases y<;>decide
theorem BU {a:LongSum} {u v:Ex} (r:Rel a u) (hv:0≤v.size):Rel (a.add v.kind) (cG .near u v):=by
 have hsz:=KW (m:=.near) r.sz hv;have rn:=r.nan;have ri:=r.inf;have rs:=r.sgn;have rq:=r.sum;have hu:=r.sz;cases iM:v.nan
 ·cases eO:u.nan
  ·have ri:=ri eO;have rs:=rs eO;have rq:=rq eO;rw[eO] at rn;cases iN:v.inf
   ·cases eU:u.inf
    ·
     have rq:=rq eU;rw[eU] at ri;rw[bH iM iN];have ⟨gH,wy⟩:=bor ri;have Gn:=(bor rn).1;have e1:=o5 (u:=u) (p:=min u.power v.power) Kk;have e2:=o5 (u:=v) (p:=min u.power v.power) Kk;have e3:((cnt u (min u.power v.power)+cnt v (min u.power v.power):Int):Rat)*two (min u.power v.power)=a.sum+bK v.neg ((v.size:Rat)*two v.power):=by
      rw[dI,pN,e1,e2,rq]
     have aah:∃s S p,cG .near u v=bN s S p∧bK s ((S:Rat)*two p)=a.sum+bK v.neg ((v.size:Rat)*two v.power):=by
      unfold cG;simp only[eO,iM,eU,iN,eT,DJ,ic,aO,aM];rw[←e3];generalize min u.power v.power=p;by_cases z:cnt u p+cnt v p=0
      ·refine⟨_,0,p,ao z,?_⟩;rw[z,show (((0:Int):Rat)*two p)=0 from bF _];exact dG.mpr rfl
      ·refine⟨_,_,_,ag z,?_⟩;have:=lh (p:=p) z;rw[kP] at this;injection this with _ k
     obtain⟨s,S,p,ef,ev⟩:=aah;rw[ef] at hsz ⊢;refine⟨hsz,?_,fun _=>?_,fun _ h=>?_,fun _ _=>ev⟩
     ·show false=(a.nan||(a.plus&&a.minus));rw[Gn,gH];rfl
     ·show false=(a.plus||a.minus);rw[gH,wy];rfl
     ·cases h
    ·rw[bH iM iN];have ef:cG .near u v=u:=by
      unfold cG;simp[eO,iM,eU,iN]
     rw[ef] at hsz ⊢;refine⟨hsz,by rw[eO];exact rn,fun _=>ri,fun _ _=>rs eU,fun _ h=>?_⟩;rw[eU] at h;cases h
   ·rw[cU iM iN];have ⟨Gn,Gp⟩:=bor rn;cases eU:u.inf
    ·rw[eU] at ri;have ⟨gH,wy⟩:=bor ri;have ef:cG .near u v=v:=by
      unfold cG;simp[eO,iM,eU,iN]
     rw[ef] at hsz ⊢;unfold LongSum.add;cases hs:v.neg
     ·refine⟨hsz,?_,fun _=>?_,fun _ _=>?_,fun _ h=>?_⟩
      ·show v.nan=(a.nan||(true&&a.minus));rw[iM,Gn,wy];rfl
      ·show v.inf=(true||a.minus);rw[iN];rfl
      ·show v.neg=a.minus;rw[hs,wy]
      ·rw[iN] at h;cases h
     ·refine⟨hsz,?_,fun _=>?_,fun _ _=>?_,fun _ h=>?_⟩
      ·show v.nan=(a.nan||(a.plus&&true));rw[iM,Gn,gH];rfl
      ·show v.inf=(a.plus||true);rw[iN];simp
      ·show v.neg=true;exact hs
      ·rw[iN] at h;cases h
    ·have rs:=rs eU;rw[eU] at ri;unfold LongSum.add;cases hs:v.neg
     ·cases DX:u.neg
      ·have ef:cG .near u v=u:=by
        unfold cG;simp[eO,iM,eU,iN,hs,DX]
       rw[ef] at hsz ⊢;have wy:a.minus=false:=by rw[←rs,DX]
       refine⟨hsz,?_,fun _=>?_,fun _ _=>?_,fun _ h=>?_⟩
       ·show u.nan=(a.nan||(true&&a.minus));rw[eO,Gn,wy];rfl
       ·show u.inf=(true||a.minus);rw[eU];rfl
       ·show u.neg=a.minus;exact rs
       ·rw[eU] at h;cases h
      ·have ef:cG .near u v=kl:=by
        unfold cG;simp[eO,iM,eU,iN,hs,DX]
       rw[ef] at hsz ⊢;refine⟨hsz,?_,fun h=>?_,fun h _=>?_,fun h _=>?_⟩
       ·have:a.minus=true:=by rw[←rs,DX]
        simp[this,kl]
       ·cases h
       ·cases h
       ·cases h
     ·cases DX:u.neg
      ·have ef:cG .near u v=kl:=by
        unfold cG;simp[eO,iM,eU,iN,hs,DX]
       rw[ef] at hsz ⊢;refine⟨hsz,?_,fun h=>?_,fun h _=>?_,fun h _=>?_⟩
       ·have h1:a.minus=false:=by rw[←rs,DX]
        have h2:a.plus=true:=aag ri h1;simp[h2,kl]
       ·cases h
       ·cases h
       ·cases h
      ·have ef:cG .near u v=u:=by
        unfold cG;simp[eO,iM,eU,iN,hs,DX]
       rw[ef] at hsz ⊢;have wy:a.minus=true:=by rw[←rs,DX]
       have gH:a.plus=false:=W9 Gp wy;refine⟨hsz,?_,fun _=>?_,fun _ _=>?_,fun _ h=>?_⟩
       ·show u.nan=(a.nan||(a.plus&&true));rw[eO,Gn,gH];rfl
       ·show u.inf=(a.plus||true);rw[eU];simp
       ·show u.neg=true;exact DX
       ·rw[eU] at h;cases h
  ·
   have ef:cG .near u v=kl:=by
    unfold cG;simp[eO]
   rw[ef];rw[eO] at rn;refine⟨Ke,?_,fun h=>(nomatch h),fun h _=>(nomatch h),fun h _=>(nomatch h)⟩;cases hk:v.kind with
   | nan=>simp[LongSum.add,kl]
   | inf s =>
    unfold LongSum.add;cases s
    ·show true=_;simp only[aO,aM];clear rs ri rq hsz hk;revert rn;cases a.nan<;>cases a.plus<;>cases a.minus<;>decide
    ·show true=_;simp only[aJ];clear rs ri rq hsz hk;revert rn;cases a.nan<;>cases a.plus<;>cases a.minus<;>decide
   | num s q=>show true=_;exact rn
 ·have ef:cG .near u v=kl:=by
   unfold cG;simp[iM]
  rw[ef,fJ iM];exact⟨Ke,by simp[LongSum.add,kl],fun h=>(nomatch h),fun h _=>(nomatch h),fun h _=>(nomatch h)⟩
theorem IJ (t:Fmt) (m:Mode) {a:LongSum} {u:Ex} (r:Rel a u):a.get t m=if bC u=true then t.zero m.isDown else t.ofKind m u.kind:=by
 unfold LongSum.get bC;have rn:=r.nan;cases eO:u.nan
 ·have ri:=r.inf eO;have rs:=r.sgn eO;have rq:=r.sum eO;rw[eO] at rn;have ⟨Gn,Gp⟩:=bor rn;cases eU:u.inf
  ·rw[eU] at ri;have ⟨gH,wy⟩:=bor ri;have rq:=rq eU;rw[bH eO eU,rq];simp only[Gn,gH,wy,aO,false_and,or_self,aM,fS,eX,bj];by_cases k:u.size=0
   ·rw[ao k];have:a.sum=0:=by rw[←rq,dG,k];exact bF _
    unfold Fmt.put;rw[ao this]
   ·rw[ag k];refine kZ t m _ _ ?_;rw[←rq];exact fun z=>k (val_zero.mp z)
  ·have rs:=rs eU;rw[eU] at ri;rw[cU eO eU,rs];simp only[Gn,aO,false_or,fS,vB,ic,uD,aM];cases gH:a.plus
   ·have wy:a.minus=true:=aaf ri gH;simp[wy,Fmt.ofKind]
   ·have wy:a.minus=false:=W8 Gp gH;simp[wy,Fmt.ofKind]
 ·rw[eO] at rn;rw[fJ eO];have:a.nan=true∨(a.plus=true∧a.minus=true):=by
   clear r;revert rn;cases a.nan<;>cases a.plus<;>cases a.minus<;>decide
  rw[ao this];rfl
theorem Fg {α β:Type} {f g:α→Option β}:∀(l:List α),(∀k∈l,f k=g k)→l.filterMap f=l.filterMap g
 | [],_=>rfl
 | a::l,h=>by
  rw[oP,oP,h a (by simp),Fg l fun k hk=>h k (by simp[hk])]
theorem IK {α:Type} (n i:Nat) (l:List α) (x:α):every n i (l++[x])=if l.length%n=i then every n i l++[x] else every n i l:=by
 unfold every;rw[cT,show [x].length=1 from rfl,List.range_succ,List.filterMap_append];have e1:(List.range l.length).filterMap (fun (k:Nat)=>if k%n=i then (l++[x])[k]? else none)=(List.range l.length).filterMap (fun (k:Nat)=>if k%n=i then l[k]? else none):=by
  refine Fg _ fun k hk=>?_;rw[uk (oO.mp hk)]
 rw[e1];have e2:(l++[x])[l.length]?=some x:=by rw[uh (bB _)];simp
 by_cases k:l.length%n=i
 ·rw[ao k];congr 1;simp[k]
 ·rw[ag k];simp[k]
end BF
namespace BF
open Lw
def fm (k:Int):Fmt:=if k=0 then HALF else if k=1 then BRAIN else if k=2 then SINGLE else D
def md (m:Int):Mode:=if m=0 then .near else if m=1 then .down else if m=2 then .up else if m=3 then .zero else .away
theorem uw {k:Int} (h:0≤k) (h2:k≤3):k=0∨k=1∨k=2∨k=3:=by omega
theorem wz {k:Int} (h:0≤k) (h2:k≤4):k=0∨k=1∨k=2∨k=3∨k=4:=by omega
theorem BV {k:Int} (h:0≤k):floatKind k.toNat=if k≤3 then some (fm k) else none:=by
 by_cases c:k≤3
 ·rw[ao c];rcases uw h c with rfl | rfl | rfl | rfl<;>rfl
 ·rw[ag c];obtain⟨n,rfl⟩:=aA h;obtain⟨j,rfl⟩:∃j,n=j+4:=⟨n-4,Kk⟩;rfl
theorem QK {m:Int} (h:0≤m):modeOf m.toNat=if m≤4 then some (md m) else none:=by
 by_cases c:m≤4
 ·rw[ao c];rcases wz h c with rfl | rfl | rfl | rfl | rfl<;>rfl
 ·rw[ag c];obtain⟨n,rfl⟩:=aA h;obtain⟨j,rfl⟩:∃j,n=j+5:=⟨n-5,Kk⟩;rfl
theorem ya (k:Int):fm k=HALF∨fm k=BRAIN∨fm k=SINGLE∨fm k=D:=by
 unfold fm;split
 ·exact .inl rfl
 ·split
  ·exact .inr (.inl rfl)
  ·split
   ·exact .inr (.inr (.inl rfl))
   ·exact .inr (.inr (.inr rfl))
theorem dm (k:Int):Ok (fm k):=by
 rcases ya k with h | h | h | h<;>rw[h]
 ·exact okH
 ·exact Wt
 ·exact okS
 ·exact cH
theorem gM (k:Int):(fm k).m≤52∧(fm k).e≤11∧aU (fm k)≤2^63∧-1074≤az (fm k)∧az (fm k)≤-24∧(fm k).bias≤1023∧7≤(fm k).m:=by
 rcases ya k with h | h | h | h<;>rw[h]<;>decide
def nb (t:Fmt):Int:=(1+t.e+t.m)/8
theorem mq (t:Fmt):((NumCalls.Fmt.bytes t:Nat):Int)=nb t:=by
 unfold NumCalls.Fmt.bytes Fmt.bits nb;omega
theorem gA (k:Int):8*nb (fm k)=1+(fm k).e+(fm k).m∧2≤nb (fm k)∧nb (fm k)≤8:=by
 rcases ya k with h | h | h | h<;>rw[h]<;>decide
def cS (l:List Int):Prop:=∀x∈l,0≤x∧x≤255
theorem cS.cons {x:Int} {l:List Int} (h:cS (x::l)):(0≤x∧x≤255)∧cS l:=⟨h x (by simp),fun y hy=>h y (by simp[hy])⟩
def cj:List Int→Int
 | []=>0
 | c::r=>c+256*cj r
theorem zb {x:Int} (h0:0≤x) (h1:x≤255):((UInt8.ofNat x.toNat).toNat:Int)=x:=by
 rw[DP];omega
theorem wA:∀{l:List Int},cS l→(NumNeutral.bytes l).map (fun (c:UInt8)=>(c.toNat:Int))=l
 | [],_=>rfl
 | x::l,h=>by
  have ⟨a,b⟩:=h.cons;show ((UInt8.ofNat x.toNat).toNat:Int)::(NumNeutral.bytes l).map _=_;rw[wA b,zb a.1 a.2]
theorem zc:∀{l:List Int},cS l→(((NumNeutral.bytes l).foldr (fun (c:UInt8) (n:Nat)=>c.toNat+256*n) 0:Nat):Int)=cj l
 | [],_=>rfl
 | x::l,h=>by
  have ⟨a,b⟩:=h.cons;have ih:=zc b;show (((UInt8.ofNat x.toNat).toNat+256*(NumNeutral.bytes l).foldr (fun (c:UInt8) (n:Nat)=>c.toNat+256*n) 0:Nat):Int)=x+256*cj l;have:=zb a.1 a.2;omega
theorem iG (l:List Int):(NumNeutral.bytes l).length=l.length:=by unfold NumNeutral.bytes;exact aF _
theorem gS:∀{l:List Int},cS l→0≤cj l∧cj l<2^(8*l.length)
 | [],_=>by decide
 | x::l,h=>by
  have ⟨a,b⟩:=h.cons;have ⟨c,d⟩:=gS b;unfold cj;rw[show 8*(x::l).length=8*l.length+8 by simp;omega,jk,show (2:Int)^8=256 from rfl];omega
theorem rP (l:List Int) (x:Int):cj (l++[x])=cj l+x*2^(8*l.length):=by
 induction l with
 | nil=>simp[cj]
 | cons c r ih =>
  show c+256*cj (r++[x])=c+256*cj r+_;rw[ih,show 8*(c::r).length=8*r.length+8 by simp;omega,jk,show (2:Int)^8=256 from rfl];grind
theorem kR (t:Fmt) {l:List Int} (h:cS l):NumCalls.bitsOf t (NumNeutral.bytes l)=if (l.length:Int)=nb t then some (cj l).toNat else none:=by
 unfold NumCalls.bitsOf;have hb:=mq t;have e:=zc h;rw[iG];by_cases c:(l.length:Int)=nb t
 ·rw[ao c,ao Kk];congr 1;omega
 ·rw[ag c,ag Kk]
theorem pq (k:Int) {l:List Int} (h:cS l) (hl:(l.length:Int)=nb (fm k)):(cj l).toNat<2*(fm k).sign:=by
 have ⟨a,b⟩:=gS h;have ⟨c,_⟩:=gA k;have e:8*l.length=((fm k).e+(fm k).m)+1:=by omega
 rw[e,gz] at b;have:=dY (fm k);unfold aU at this;omega
def ux (t:Fmt) (x:Int):List Int:=(List.range (nb t).toNat).map fun i=>x/2^(8*i)%256
theorem Gq (t:Fmt) (x:Nat):(NumCalls.toBytes t x).map (fun (c:UInt8)=>(c.toNat:Int))=ux t x:=by
 unfold NumCalls.toBytes ux;have hb:=mq t;rw[show (nb t).toNat=NumCalls.Fmt.bytes t by omega,ju];refine xH fun i _=>?_;show (((UInt8.ofNat (x/256^i%256)).toNat:Nat):Int)=_;rw[DP];have:(2:Nat)^(8*i)=256^i:=by rw[DQ]
 have e:(x:Int)/2^(8*i)%256=((x/2^(8*i)%256:Nat):Int):=by rw[←bO];rfl
 rw[e,this];have:=fK (x/256^i) (show 256>0 by decide);omega
def ia (t:Fmt) (x:Nat):List Int:=0::nb t::ux t x
theorem Gr (t:Fmt) (x:Nat):((NumCalls.toBytes t x).length:Int)=nb t:=by
 unfold NumCalls.toBytes;rw[aF,rk];exact mq t
theorem IL (t:Fmt) (x:Nat):(NumCalls.number t x).code::(NumCalls.number t x).told.flatMap NumNeutral.toldInts=ia t x:=by
 show (0:Int)::(NumNeutral.toldInts (.t (NumCalls.toBytes t x))++[])=_;rw[fW];show (0:Int)::((NumCalls.toBytes t x).length:Int)::(NumCalls.toBytes t x).map (fun (c:UInt8)=>(c.toNat:Int))=_;rw[Gq,Gr];rfl
def lM (a:NumCalls.Answer):List Int:=a.code::a.told.flatMap NumNeutral.toldInts
theorem jc (t:Fmt) (x:Nat):lM (NumCalls.number t x)=ia t x:=IL t x
theorem lI {k m:Int} (hk:0≤k) (hm:0≤m) (f:Fmt→Mode→NumCalls.Answer):NumCalls.by_ k.toNat m.toNat f=if k≤3∧m≤4 then f (fm k) (md m) else NumCalls.BAD:=by
 unfold NumCalls.by_;rw[BV hk,QK hm];by_cases c:k≤3
 ·by_cases d:m≤4
  ·rw[ao c,ao d,ao ⟨c,d⟩]
  ·rw[ao c,ag d,ag fun z=>d z.2]
 ·rw[ag c,ag (show ¬(k≤3∧m≤4) from fun z=>c z.1)]
theorem tq (t:Fmt) {a:List Int} (ha:cS a) (f:Nat→NumCalls.Answer):NumCalls.of1 t (NumNeutral.bytes a) f=if (a.length:Int)=nb t then f (cj a).toNat else NumCalls.BAD:=by
 unfold NumCalls.of1;rw[kR t ha];split<;>rename_i h<;>split at h<;>simp_all
theorem Aw (t:Fmt) {a b:List Int} (ha:cS a) (hb:cS b) (f:Nat→Nat→NumCalls.Answer) :
  NumCalls.of2 t (NumNeutral.bytes a) (NumNeutral.bytes b) f=if (a.length:Int)=nb t∧(b.length:Int)=nb t then f (cj a).toNat (cj b).toNat else NumCalls.BAD:=by
 unfold NumCalls.of2;rw[kR t ha,kR t hb];by_cases c:(a.length:Int)=nb t
 ·by_cases d:(b.length:Int)=nb t
  ·rw[ao c,ao d,ao ⟨c,d⟩]
  ·rw[ao c,ag d,ag fun z=>d z.2]
 ·rw[ag c,ag (show ¬((a.length:Int)=nb t∧(b.length:Int)=nb t) from fun z=>c z.1)]
def T6 (t:Fmt) (m:Mode) (n:Int) (x y:Nat):Nat:=(NumCalls.opOf t m n.toNat x y).getD 0
theorem QL (t:Fmt) (m:Mode) {n:Int} (h:0≤n) (x y:Nat):NumCalls.told t (NumCalls.opOf t m n.toNat x y)=if n≤10 then NumCalls.number t (T6 t m n x y) else NumCalls.BAD:=by
 obtain⟨j,rfl⟩:=aA h;unfold T6;rw[aN]
 match j with
 | 0=>rfl
 | 1=>rfl
 | 2=>rfl
 | 3=>rfl
 | 4=>rfl
 | 5=>rfl
 | 6=>rfl
 | 7=>rfl
 | 8=>rfl
 | 9=>rfl
 | 10=>rfl
 | j+11=>rw[ag Kk];rfl
abbrev St:=NumCalls.State
theorem Gs (s:St) {k n m:Int} (hk:0≤k) (hn:0≤n) (hm:0≤m) {a b:List Int} (ha:cS a) (hb:cS b):NumNeutral.step s [[0,k,n,m],a,b] =
  (s,if (k≤3∧(a.length:Int)=nb (fm k)∧(b.length:Int)=nb (fm k))∧n≤10∧m≤4 then ia (fm k) (T6 (fm k) (md m) n (cj a).toNat (cj b).toNat) else [-1]):=by
 show (s,lM (NumCalls.answer s (.op k.toNat n.toNat m.toNat (NumNeutral.bytes a) (NumNeutral.bytes b))))=_;congr 1;show lM (NumCalls.by_ k.toNat m.toNat _)=_;rw[lI hk hm];by_cases c1:k≤3
 ·by_cases c2:m≤4
  ·rw[ao ⟨c1,c2⟩,Aw _ ha hb];by_cases c3:(a.length:Int)=nb (fm k)∧(b.length:Int)=nb (fm k)
   ·rw[ao c3,QL _ _ hn];by_cases c4:n≤10
    ·rw[ao c4,ao ⟨⟨c1,c3⟩,c4,c2⟩,jc]
    ·rw[ag c4,ag fun z=>c4 z.2.1];rfl
   ·rw[ag c3,ag fun z=>c3 z.1.2];rfl
  ·rw[ag fun z=>c2 z.2,ag fun z=>c2 z.2.2];rfl
 ·rw[ag fun z=>c1 z.1,ag fun z=>c1 z.1.1];rfl
theorem Ax (s:St) {k m:Int} (hk:0≤k) (hm:0≤m) {a b c:List Int} (ha:cS a) (hb:cS b) (hc:cS c):NumNeutral.step s [[1,k,m],a,b,c] =
  (s,if (k≤3∧(a.length:Int)=nb (fm k)∧(b.length:Int)=nb (fm k)∧(c.length:Int)=nb (fm k))∧m≤4 then ia (fm k) ((fm k).fma (md m) (cj a).toNat (cj b).toNat (cj c).toNat) else [-1]):=by
 show (s,lM (NumCalls.by_ k.toNat m.toNat _))=_;rw[lI hk hm];by_cases c1:k≤3
 ·by_cases c2:m≤4
  ·rw[ao ⟨c1,c2⟩,Aw _ ha hb];by_cases c3:(a.length:Int)=nb (fm k)∧(b.length:Int)=nb (fm k)
   ·rw[ao c3,tq _ hc];by_cases c4:(c.length:Int)=nb (fm k)
    ·rw[ao c4,ao ⟨⟨c1,c3.1,c3.2,c4⟩,c2⟩,jc]
    ·rw[ag c4,ag fun z=>c4 z.1.2.2.2];rfl
   ·rw[ag c3,ag fun z=>c3 ⟨z.1.2.1,z.1.2.2.1⟩];rfl
  ·rw[ag fun z=>c2 z.2,ag fun z=>c2 z.2];rfl
 ·rw[ag fun z=>c1 z.1,ag fun z=>c1 z.1.1];rfl
theorem tu (s:St) {k m e:Int} (hk:0≤k) (hm:0≤m) {a:List Int} (ha:cS a):NumNeutral.step s [[2,k,m,e],a] =
  (s,if (k≤3∧(a.length:Int)=nb (fm k))∧m≤4∧(e.natAbs:Int)≤5000 then ia (fm k) ((fm k).scale (md m) (cj a).toNat e) else [-1]):=by
 show (s,lM (NumCalls.by_ k.toNat m.toNat _))=_;rw[lI hk hm];by_cases c1:k≤3
 ·by_cases c2:m≤4
  ·rw[ao ⟨c1,c2⟩,tq _ ha];by_cases c3:(a.length:Int)=nb (fm k)
   ·rw[ao c3];by_cases c4:(e.natAbs:Int)≤5000
    ·rw[ao Kk,ao ⟨⟨c1,c3⟩,c2,c4⟩,jc]
    ·rw[ag Kk,ag fun z=>c4 z.2.2];rfl
   ·rw[ag c3,ag fun z=>c3 z.1.2];rfl
  ·rw[ag fun z=>c2 z.2,ag fun z=>c2 z.2.1];rfl
 ·rw[ag fun z=>c1 z.1,ag fun z=>c1 z.1.1];rfl
theorem wC (s:St) {f g m:Int} (hf:0≤f) (hg:0≤g) (hm:0≤m) {a:List Int} (ha:cS a):NumNeutral.step s [[3,f,g,m],a] =
  (s,if (f≤3∧(a.length:Int)=nb (fm f))∧g≤3∧m≤4 then ia (fm g) ((fm f).to (fm g) (md m) (cj a).toNat) else [-1]):=by
 show (s,lM (NumCalls.by_ f.toNat m.toNat _))=_;rw[lI hf hm];by_cases c1:f≤3
 ·by_cases c2:m≤4
  ·rw[ao ⟨c1,c2⟩,BV hg];by_cases c4:g≤3
   ·rw[if_pos c4];dsimp only;rw[tq _ ha];by_cases c3:(a.length:Int)=nb (fm f)
    ·rw[ao c3,ao ⟨⟨c1,c3⟩,c4,c2⟩,jc]
    ·rw[ag c3,ag fun z=>c3 z.1.2];rfl
   ·rw[ag c4,ag fun z=>c4 z.2.1];rfl
  ·rw[ag fun z=>c2 z.2,ag fun z=>c2 z.2.2];rfl
 ·rw[ag fun z=>c1 z.1,ag fun z=>c1 z.1.1];rfl
def IM (t:Fmt) (m:Mode) (f:Int) (x y:Nat):Nat:=if f=5 then NumCalls.powerOf t m x y else (t.fn m f.toNat x).getD 0
theorem QM (t:Fmt) (m:Mode) {n:Int} (h:0≤n) (h5:n≠5) (x y:Nat):NumCalls.told t (t.fn m n.toNat x)=if n≤5 then NumCalls.number t (IM t m n x y) else NumCalls.BAD:=by
 obtain⟨j,rfl⟩:=aA h;unfold IM;rw[aN,ag h5]
 match j with
 | 0=>rfl
 | 1=>rfl
 | 2=>rfl
 | 3=>rfl
 | 4=>rfl
 | 5=>exact absurd rfl h5
 | j+6=>rw[ag Kk];rfl
theorem Gu (s:St) {k f m:Int} (hk:0≤k) (hf:0≤f) (hm:0≤m) {a b:List Int} (ha:cS a) (hb:cS b):NumNeutral.step s [[4,k,f,m],a,b] =
  (s,if (k≤3∧(a.length:Int)=nb (fm k)∧(f=5→(b.length:Int)=nb (fm k)))∧f≤5∧m≤4 then ia (fm k) (IM (fm k) (md m) f (cj a).toNat (cj b).toNat) else [-1]):=by
 show (s,lM (NumCalls.by_ k.toNat m.toNat _))=_;rw[lI hk hm];by_cases c1:k≤3
 ·by_cases c2:m≤4
  ·rw[ao ⟨c1,c2⟩];by_cases c5:f=5
   ·rw[ao Kk,Aw _ ha hb];by_cases c3:(a.length:Int)=nb (fm k)∧(b.length:Int)=nb (fm k)
    ·rw[ao c3,ao ⟨⟨c1,c3.1,fun _=>c3.2⟩,Kk,c2⟩,jc];unfold IM;rw[ao c5]
    ·rw[ag c3,ag fun z=>c3 ⟨z.1.2.1,z.1.2.2 c5⟩];rfl
   ·rw[ag Kk,tq _ ha];by_cases c3:(a.length:Int)=nb (fm k)
    ·rw[ao c3,QM _ _ hf c5 _ (cj b).toNat];by_cases c4:f≤5
     ·rw[ao c4,ao ⟨⟨c1,c3,fun z=>absurd z c5⟩,c4,c2⟩,jc]
     ·rw[ag c4,ag fun z=>c4 z.2.1];rfl
    ·rw[ag c3,ag fun z=>c3 z.1.2.1];rfl
  ·rw[ag fun z=>c2 z.2,ag fun z=>c2 z.2.2];rfl
 ·rw[ag fun z=>c1 z.1,ag fun z=>c1 z.1.1];rfl
theorem MH {k:Int} (hk:0≤k) (f:Fmt→Mode→NumCalls.Answer):NumCalls.by_ k.toNat 0 f=if k≤3 then f (fm k) .near else NumCalls.BAD:=by
 have:=lI hk (show (0:Int)≤0 by decide) f;rw[show (0:Int).toNat=0 from rfl] at this;rw[this];by_cases c:k≤3
 ·rw[ao c,ao ⟨c,Ke⟩];rfl
 ·rw[ag c,ag fun z=>c z.1]
theorem Ay (s:St) {k h:Int} (hk:0≤k) (hh:0≤h) {a b:List Int} (ha:cS a) (hb:cS b):NumNeutral.step s [[5,k,h],a,b] =
  (s,if (k≤3∧(a.length:Int)=nb (fm k)∧(b.length:Int)=nb (fm k))∧h≤1 then [0,Fb (fm k) h.toNat (cj a) (cj b)] else [-1]):=by
 show (s,lM (NumCalls.by_ k.toNat 0 _))=_;rw[MH hk];by_cases c1:k≤3
 ·rw[ao c1,Aw _ ha hb];by_cases c3:(a.length:Int)=nb (fm k)∧(b.length:Int)=nb (fm k)
  ·rw[ao c3];by_cases c4:h≤1
   ·rw[TK (fm k) (dm k) Kk (pq k ha c3.1) (pq k hb c3.2),ao ⟨⟨c1,c3⟩,c4⟩];rw[fC (gS ha).1,fC (gS hb).1];rfl
   ·rw[ag fun z=>c4 z.2];obtain⟨n,rfl⟩:=aA hh;obtain⟨j,rfl⟩:∃j,n=j+2:=⟨n-2,Kk⟩;rfl
  ·rw[ag c3,ag fun z=>c3 z.1.2];rfl
 ·rw[ag c1,ag fun z=>c1 z.1.1];rfl
def yb (b:Bytes):List Int:=b.map fun (c:UInt8)=>(c.toNat:Int)
theorem wD (s:St) {k:Int} (hk:0≤k) {a:List Int} (ha:cS a):NumNeutral.step s [[6,k],a] =
  (s,if k≤3∧(a.length:Int)=nb (fm k) then 0::((yb ((fm k).text (cj a).toNat)).length:Int)::yb ((fm k).text (cj a).toNat) else [-1]):=by
 show (s,lM (NumCalls.by_ k.toNat 0 _))=_;rw[MH hk];by_cases c1:k≤3
 ·rw[ao c1,tq _ ha];by_cases c3:(a.length:Int)=nb (fm k)
  ·rw[ao c3,ao ⟨c1,c3⟩];unfold yb;rw[aF];show (s,(0:Int)::(NumNeutral.toldInts (.t ((fm k).text (cj a).toNat))++[]))=_;rw[fW];rfl
  ·rw[ag c3,ag fun z=>c3 z.2];rfl
 ·rw[ag c1,ag fun z=>c1 z.1];rfl
theorem rQ (s:St) {k m:Int} (hk:0≤k) (hm:0≤m) (t:List Int):NumNeutral.step s [[7,k,m],t] =
  (s,if k≤3∧m≤4∧(t.length:Int)≤60 then (match jo (fm k) (md m) (NumNeutral.bytes t) with
   | some x=>ia (fm k) x.toNat
   | none=>[-2]) else [-1]):=by
 show (s,lM (NumCalls.by_ k.toNat m.toNat _))=_;rw[lI hk hm];by_cases c1:k≤3
 ·by_cases c2:m≤4
  ·rw[ao ⟨c1,c2⟩,iG];by_cases c3:(t.length:Int)≤60
   ·rw[ag (show ¬NumCalls.LONG<t.length by unfold NumCalls.LONG;omega),ao ⟨c1,c2,c3⟩,←uv (fm k) (dm k)];cases readFloat (fm k) (md m) (NumNeutral.bytes t) with
    | none=>rfl
    | some x =>
     simp only[rp,aN];rw[jc]
   ·rw[ao (show NumCalls.LONG<t.length by unfold NumCalls.LONG;omega),ag fun z=>c3 z.2.2];rfl
  ·rw[ag fun z=>c2 z.2,ag fun z=>c2 z.2.1];rfl
 ·rw[ag fun z=>c1 z.1,ag fun z=>c1 z.1];rfl
theorem Gv (s:St) {k:Int} (hk:0≤k) {a b:List Int} (ha:cS a) (hb:cS b):NumNeutral.step s [[9,k],a,b] =
  if k≤3∧(a.length:Int)=nb (fm k)∧(b≠[]→(b.length:Int)=nb (fm k)) then
   (s.add (if b=[] then (fm k).kind (cj a).toNat else timesKinds ((fm k).kind (cj a).toNat) ((fm k).kind (cj b).toNat)),[0]) else (s,[-1]):=by
 show ((NumCalls.step s (.add k.toNat (NumNeutral.bytes a) (NumNeutral.bytes b))).1,lM (NumCalls.step s (.add k.toNat (NumNeutral.bytes a) (NumNeutral.bytes b))).2)=_;unfold NumCalls.step;dsimp only;rw[BV hk];by_cases c1:k≤3
 ·rw[if_pos c1];dsimp only;rw[kR _ ha];by_cases c2:(a.length:Int)=nb (fm k)
  ·rw[if_pos c2];dsimp only;by_cases c3:b=[]
   ·subst c3;rw[ao (show (NumNeutral.bytes []).isEmpty=true from rfl),ao ⟨c1,c2,fun z=>absurd rfl z⟩];rfl
   ·have iY:¬(NumNeutral.bytes b).isEmpty=true:=by
     rw[oI];intro z;have:=a7 List.length z;rw[iG] at this;exact c3 (HI.mp this)
    rw[ag iY,kR _ hb];by_cases c4:(b.length:Int)=nb (fm k)
    ·rw[ao c4,ao ⟨c1,c2,fun _=>c4⟩,ag c3];rfl
    ·rw[ag c4,ag fun z=>c4 (z.2.2 c3)];rfl
  ·rw[ag c2,ag fun z=>c2 z.2.1];rfl
 ·rw[ag c1,ag fun z=>c1 z.1];rfl
theorem Az (s:St) {k m:Int} (hk:0≤k) (hm:0≤m):NumNeutral.step s [[10,k,m]]=(s,if k≤3∧m≤4 then ia (fm k) (s.get (fm k) (md m)) else [-1]):=by
 show (s,lM (NumCalls.by_ k.toNat m.toNat _))=_;rw[lI hk hm];by_cases c:k≤3∧m≤4
 ·rw[ao c,ao c,jc]
 ·rw[ag c,ag c];rfl
theorem tw (s:St) {k m b g:Int} (hk:0≤k) (hm:0≤m) (hb:0≤b) (hg:0≤g) {a:List Int} (ha:cS a):NumNeutral.step s [[13,k,m,b,g],a] =
  (s,if (k≤3∧(a.length:Int)=nb (fm k))∧m≤4∧1≤b∧b≤48∧g≤1 then [0,(fm k).toInt (md m) b.toNat (decide (g=1)) (cj a).toNat] else [-1]):=by
 show (s,lM (NumCalls.by_ k.toNat m.toNat _))=_;rw[lI hk hm];by_cases c1:k≤3
 ·by_cases c2:m≤4
  ·rw[ao ⟨c1,c2⟩];by_cases c3:1≤b∧b≤48∧g≤1
   ·rw[ag (show ¬(b.toNat<1∨48<b.toNat∨1<g.toNat) by omega),tq _ ha];by_cases c4:(a.length:Int)=nb (fm k)
    ·rw[ao c4,ao ⟨⟨c1,c4⟩,c2,c3⟩];have:(g.toNat==1)=decide (g=1):=by
      by_cases z:g=1
      ·subst z;rfl
      ·rw[bS z];exact tT.mpr Kk
     rw[this];rfl
    ·rw[ag c4,ag fun z=>c4 z.1.2];rfl
   ·rw[ao (show (b.toNat<1∨48<b.toNat∨1<g.toNat) by omega),ag fun z=>c3 z.2.2];rfl
  ·rw[ag fun z=>c2 z.2,ag fun z=>c2 z.2.1];rfl
 ·rw[ag fun z=>c1 z.1,ag fun z=>c1 z.1.1];rfl
theorem tx (s:St) {k m:Int} (z:Int) (hk:0≤k) (hm:0≤m):NumNeutral.step s [[14,k,m,z]]=(s,if k≤3∧m≤4 then ia (fm k) ((fm k).ofInt (md m) z) else [-1]):=by
 show (s,lM (NumCalls.by_ k.toNat m.toNat _))=_;rw[lI hk hm];by_cases c:k≤3∧m≤4
 ·rw[ao c,ao c,jc]
 ·rw[ag c,ag c];rfl
end BF
namespace BF
open Lw
def gx (n:Nat) (l:List Int):List Int:=(List.range (l.length/n)).map fun i=>cj ((l.drop (i*n)).take n)
theorem cS.take {l:List Int} (h:cS l) (n:Nat):cS (l.take n):=fun x hx=>h x (HX hx)
theorem cS.drop {l:List Int} (h:cS l) (n:Nat):cS (l.drop n):=fun x hx=>h x (List.mem_of_mem_drop hx)
theorem IP (l:List Int) (n:Nat):(NumNeutral.bytes l).take n=NumNeutral.bytes (l.take n):=by unfold NumNeutral.bytes;exact oJ.symm
theorem IQ (l:List Int) (n:Nat):(NumNeutral.bytes l).drop n=NumNeutral.bytes (l.drop n):=by unfold NumNeutral.bytes;exact oN.symm
theorem IS {n:Nat} (hn:0<n) {l:List Int} (h:n≤l.length):gx n l=cj (l.take n)::gx n (l.drop n):=by
 unfold gx;have e:l.length/n=(l.drop n).length/n+1:=by
  rw[ez];obtain⟨j,hj⟩:∃j,l.length=j+n:=⟨l.length-n,Kk⟩;rw[hj,lB,Hm _ hn]
 rw[e,Fp,fU,ju];rw[Nat.zero_mul,xI];congr 1;refine xH fun i _=>?_;show cj ((l.drop ((i+1)*n)).take n)=_;rw[mh,show (i+1)*n=n+i*n by rw[v7];omega]
theorem nZ (t:Fmt) {n:Nat} (hn:0<n) (hb:NumCalls.Fmt.bytes t=n):∀(f:Nat) (l:List Int),cS l→l.length≤f →
  NumCalls.allBits t f (NumNeutral.bytes l)=if l.length%n=0 then some ((gx n l).map Int.toNat) else none
 | 0,l,_,hl=>by
  have:l=[]:=HI.mp Kk;subst this;simp[NumCalls.allBits,NumNeutral.bytes,gx]
 | f+1,l,h,hl=>by
  unfold NumCalls.allBits;by_cases c:l=[]
  ·subst c;simp[NumNeutral.bytes,gx]
  ·have iY:¬(NumNeutral.bytes l).isEmpty=true:=by
    rw[oI];intro z;have:=a7 List.length z;rw[iG] at this;exact c (HI.mp this)
   have hlen:0<l.length:=List.length_pos_iff.mpr c;have hnb:=mq t;rw[ag iY,hb,IP,IQ,kR t (h.take n),fN];by_cases d:n≤l.length
   ·rw[ao Kk,nZ t hn hb f (l.drop n) (h.drop n) (by rw[ez];omega),ez];have e:(l.length-n)%n=l.length%n:=by
     obtain⟨j,hj⟩:∃j,l.length=j+n:=⟨l.length-n,Kk⟩;rw[hj,lB,Hn]
    rw[e];by_cases g:l.length%n=0
    ·rw[ao g,ao g,IS hn d];rfl
    ·rw[ag g,ag g];rfl
   ·rw[ag Kk,ag (by rw[qY Kk];omega)];rfl
theorem chunk_len (n:Nat) (l:List Int):(gx n l).length=l.length/n:=by unfold gx;rw[aF,rk]
def f6 {α:Type} (g:Nat→α→Nat) (n:Nat) (l:List α):List Nat:=(List.range n).map fun i=>(every n i l).foldl g 0
theorem iW {α:Type} (g:Nat→α→Nat) (n:Nat) (l:List α):(f6 g n l).length=n:=by unfold f6;simp
theorem Fh {α:Type} (g:Nat→α→Nat) (n:Nat):f6 g n ([]:List α)=List.replicate n 0:=by
 unfold f6 every;apply j8;intro i;by_cases c:i<n
 ·rw[aT,oH c,ES,ao c];rfl
 ·rw[eP (by simp;omega),ES,ag c]
theorem BW {α:Type} (g:Nat→α→Nat) {n i:Nat} (l:List α) (h:i<n):(f6 g n l)[i]?=some ((every n i l).foldl g 0):=by
 unfold f6;rw[aT,oH h];rfl
theorem Lb {α:Type} (g:Nat→α→Nat) {n:Nat} (hn:0<n) (l:List α) (x:α) {v:Nat} (hv:(f6 g n l)[l.length%n]?=some v):f6 g n (l++[x])=(f6 g n l).set (l.length%n) (g v x):=by
 have hi:=fK l.length hn;rw[BW g l hi] at hv;injection hv with hv
 apply j8;intro j;by_cases c:j<n
 ·rw[BW g _ c,List.getElem?_set,IK];by_cases d:l.length%n=j
  ·subst d;rw[ao rfl,ao rfl,ao (by rw[iW];exact hi),xF];show some (g _ x)=_;rw[hv]
  ·rw[ag d,ag d,BW g l c]
 ·rw[eP (by rw[iW];omega),eP (by rw[Fe,iW];omega)]
theorem zd {α:Type}:∀l:List α,(List.range l.length).filterMap (fun (k:Nat)=>l[k]?)=l
 | []=>rfl
 | a::r=>by
  rw[cN,Fp,oP];show a::_=_;congr 1;rw[List.filterMap_map];exact zd r
theorem Lc {α:Type} (l:List α):every 1 0 l=l:=by
 unfold every;have e:(fun (k:Nat)=>if k%1=0 then l[k]? else none)=fun k=>l[k]?:=by funext k;rw[Nat.mod_one,ao rfl]
 rw[e,zd]
theorem ox (t:Fmt):t.zero false=0:=by rw[jT];rfl
def px {α:Type} (t:Fmt) (m:Mode) (g:Nat→α→Nat) (n:Nat) (l:List α):Nat:=t.halved m n (f6 g n l)
def fO (o:Int):Nat:=if o=0 then 1 else if o=1 then 2 else if o=2 then 4 else 8
def kS (t:Fmt) (m:Mode) (l:List Kind):Nat:=(l.foldl LongSum.add LongSum.empty).get t m
def Fj (t:Fmt) (m:Mode) (o:Int) (l:List Nat):Nat:=if o=4 then kS t m (l.map t.kind) else px t m (t.add m) (fO o) l
def Fm (t:Fmt) (m:Mode) (o:Int) (l:List (Nat×Nat)):Nat:=if o=4 then kS t m (l.map fun p=>timesKinds (t.kind p.1) (t.kind p.2)) else px t m (fun s p=>t.fma m p.1 p.2 s) (fO o) l
theorem wG {α:Type} (t:Fmt) (m:Mode) (g:Nat→α→Nat) (l:List α):px t m g 1 l=l.foldl g 0:=by
 unfold px f6;rw[show List.range 1=[0] from rfl,fU,Lc];rfl
theorem Od (t:Fmt) (m:Mode) {o:Int} (h:0≤o) (l:List Nat):NumCalls.told t (NumCalls.sumOf t m o.toNat l)=if o≤4 then NumCalls.number t (Fj t m o l) else NumCalls.BAD:=by
 obtain⟨j,rfl⟩:=aA h;unfold NumCalls.sumOf Fj;rw[aN]
 match j with
 | 0 =>
  rw[ag (show ¬(0:Nat)=4 by decide),ao (show ((0:Nat):Int)≤4 by decide),ag (show ¬((0:Nat):Int)=4 by decide),show fO ((0:Nat):Int)=1 from rfl,wG];show NumCalls.number t (t.sumLeft m l)=_;unfold Fmt.sumLeft;rw[ox]
 | 1 =>
  rw[ag (show ¬(1:Nat)=4 by decide),ao (show ((1:Nat):Int)≤4 by decide),ag (show ¬((1:Nat):Int)=4 by decide)];show NumCalls.number t (t.sumLanes m 2 l)=_;unfold Fmt.sumLanes Fmt.sumLeft;rw[ox];rfl
 | 2 =>
  rw[ag (show ¬(2:Nat)=4 by decide),ao (show ((2:Nat):Int)≤4 by decide),ag (show ¬((2:Nat):Int)=4 by decide)];show NumCalls.number t (t.sumLanes m 4 l)=_;unfold Fmt.sumLanes Fmt.sumLeft;rw[ox];rfl
 | 3 =>
  rw[ag (show ¬(3:Nat)=4 by decide),ao (show ((3:Nat):Int)≤4 by decide),ag (show ¬((3:Nat):Int)=4 by decide)];show NumCalls.number t (t.sumLanes m 8 l)=_;unfold Fmt.sumLanes Fmt.sumLeft;rw[ox];rfl
 | 4 =>
  rw[ao (show (4:Nat)=4 from rfl),ao (show ((4:Nat):Int)≤4 by decide),ao (show ((4:Nat):Int)=4 from rfl)];unfold kS;rw[List.foldl_map];rfl
 | j+5 =>
  rw[ag (show ¬(j+5:Nat)=4 by omega),ag (show ¬((j+5:Nat):Int)≤4 by omega)];rfl
theorem Oe (t:Fmt) (m:Mode) {o:Int} (h:0≤o) (l:List (Nat×Nat)):NumCalls.told t (NumCalls.dotOf t m o.toNat l)=if o≤4 then NumCalls.number t (Fm t m o l) else NumCalls.BAD:=by
 obtain⟨j,rfl⟩:=aA h;unfold NumCalls.dotOf Fm;rw[aN]
 match j with
 | 0 =>
  rw[ag (show ¬(0:Nat)=4 by decide),ao (show ((0:Nat):Int)≤4 by decide),ag (show ¬((0:Nat):Int)=4 by decide),show fO ((0:Nat):Int)=1 from rfl,wG];show NumCalls.number t (t.dotLeft m l)=_;unfold Fmt.dotLeft;rw[ox]
 | 1 =>
  rw[ag (show ¬(1:Nat)=4 by decide),ao (show ((1:Nat):Int)≤4 by decide),ag (show ¬((1:Nat):Int)=4 by decide)];show NumCalls.number t (t.dotLanes m 2 l)=_;unfold Fmt.dotLanes Fmt.dotLeft;rw[ox];rfl
 | 2 =>
  rw[ag (show ¬(2:Nat)=4 by decide),ao (show ((2:Nat):Int)≤4 by decide),ag (show ¬((2:Nat):Int)=4 by decide)];show NumCalls.number t (t.dotLanes m 4 l)=_;unfold Fmt.dotLanes Fmt.dotLeft;rw[ox];rfl
 | 3 =>
  rw[ag (show ¬(3:Nat)=4 by decide),ao (show ((3:Nat):Int)≤4 by decide),ag (show ¬((3:Nat):Int)=4 by decide)];show NumCalls.number t (t.dotLanes m 8 l)=_;unfold Fmt.dotLanes Fmt.dotLeft;rw[ox];rfl
 | 4 =>
  rw[ao (show (4:Nat)=4 from rfl),ao (show ((4:Nat):Int)≤4 by decide),ao (show ((4:Nat):Int)=4 from rfl)];unfold kS;rw[List.foldl_map];rfl
 | j+5 =>
  rw[ag (show ¬(j+5:Nat)=4 by omega),ag (show ¬((j+5:Nat):Int)≤4 by omega)];rfl
theorem lX {a b:Nat}:((a:Int)%(b:Int)=0)↔a%b=0:=by omega
theorem Fn {L N:Nat} (h:L%N=0) (hN:0<N):64<L/N↔¬(L:Int)≤64*(N:Int):=by
 have e:=gE L N;rw[h,Nat.add_zero] at e;have e2:(L:Int)=(L/N:Nat)*(N:Int):=by rw[←eS,eG,e]
 rw[e2];generalize L/N=q;constructor
 ·intro z w;have:65*(N:Int)≤(q:Int)*N:=i6 Kk Kk;omega
 ·intro z;refine Nat.lt_of_not_le fun w=>z ?_;exact i6 Kk Kk
theorem AA (s:St) {k o m:Int} (hk:0≤k) (ho:0≤o) (hm:0≤m) {l:List Int} (hl:cS l):NumNeutral.step s [[11,k,o,m],l] =
  (s,if (k≤3∧o≤4∧m≤4)∧(l.length:Int)%nb (fm k)=0∧(l.length:Int)≤64*nb (fm k) then ia (fm k) (Fj (fm k) (md m) o ((gx (nb (fm k)).toNat l).map Int.toNat)) else [-1]):=by
 show (s,lM (NumCalls.by_ k.toNat m.toNat _))=_;rw[lI hk hm];have ⟨_,n2,n8⟩:=gA k;have hnb:=mq (fm k);have hn:NumCalls.Fmt.bytes (fm k)=(nb (fm k)).toNat:=by omega
 have uX:0<(nb (fm k)).toNat:=by omega
 have u7:nb (fm k)=(((nb (fm k)).toNat:Nat):Int):=by omega
 by_cases c1:k≤3
 ·by_cases c2:m≤4
  ·rw[ao ⟨c1,c2⟩,nZ (fm k) uX hn _ l hl (by rw[iG];exact bB _)];by_cases c3:l.length%(nb (fm k)).toNat=0
   ·rw[if_pos c3];dsimp only;rw[List.length_map,chunk_len];have hdiv:NumCalls.MANY<l.length/(nb (fm k)).toNat↔¬(l.length:Int)≤64*nb (fm k):=by
     have:=Fn c3 uX;rw[←u7] at this;exact this
    have Ld:(l.length:Int)%nb (fm k)=0:=by rw[u7];exact lX.mpr c3
    by_cases c4:(l.length:Int)≤64*nb (fm k)
    ·rw[ag fun z=>(hdiv.mp z) c4,Od _ _ ho];by_cases c5:o≤4
     ·rw[ao c5,ao ⟨⟨c1,c5,c2⟩,Ld,c4⟩,jc]
     ·rw[ag c5,ag fun z=>c5 z.1.2.1];rfl
    ·rw[ao (hdiv.mpr c4),ag fun z=>c4 z.2.2];rfl
   ·have Ld:¬(l.length:Int)%nb (fm k)=0:=by rw[u7];exact fun z=>c3 (lX.mp z)
    rw[ag c3,ag fun z=>Ld z.2.1];rfl
  ·rw[ag fun z=>c2 z.2,ag fun z=>c2 z.1.2.2];rfl
 ·rw[ag fun z=>c1 z.1,ag fun z=>c1 z.1.1];rfl
theorem AD (s:St) {k o m:Int} (hk:0≤k) (ho:0≤o) (hm:0≤m) {l h:List Int} (hl:cS l) (hh:cS h):NumNeutral.step s [[12,k,o,m],l,h] =
  (s,if ((k≤3∧o≤4∧m≤4)∧(l.length:Int)%nb (fm k)=0∧(l.length:Int)≤64*nb (fm k))∧l.length=h.length then
   ia (fm k) (Fm (fm k) (md m) o (((gx (nb (fm k)).toNat l).map Int.toNat).zip ((gx (nb (fm k)).toNat h).map Int.toNat))) else [-1]):=by
 show (s,lM (NumCalls.by_ k.toNat m.toNat _))=_;rw[lI hk hm];have ⟨_,n2,n8⟩:=gA k;have hnb:=mq (fm k);have hn:NumCalls.Fmt.bytes (fm k)=(nb (fm k)).toNat:=by omega
 have uX:0<(nb (fm k)).toNat:=by omega
 have u7:nb (fm k)=(((nb (fm k)).toNat:Nat):Int):=by omega
 by_cases c1:k≤3
 ·by_cases c2:m≤4
  ·rw[ao ⟨c1,c2⟩,nZ (fm k) uX hn _ l hl (by rw[iG];exact bB _),nZ (fm k) uX hn _ h hh (by rw[iG];exact bB _)];by_cases c3:l.length%(nb (fm k)).toNat=0
   ·rw[ao c3];have Ld:(l.length:Int)%nb (fm k)=0:=by rw[u7];exact lX.mpr c3
    have dl:=gE l.length (nb (fm k)).toNat;rw[c3] at dl;by_cases c6:h.length%(nb (fm k)).toNat=0
    ·rw[if_pos c6];dsimp only;rw[List.length_map,chunk_len,List.length_map,chunk_len];have dh:=Nat.div_add_mod h.length (nb (fm k)).toNat;rw[c6] at dh;have hlen:l.length/(nb (fm k)).toNat=h.length/(nb (fm k)).toNat↔l.length=h.length:=by
      constructor
      ·intro z;rw[←dl,←dh,z]
      ·intro z;rw[z]
     have hdiv:NumCalls.MANY<l.length/(nb (fm k)).toNat↔¬(l.length:Int)≤64*nb (fm k):=by
      have:=Fn c3 uX;rw[←u7] at this;exact this
     by_cases c7:l.length=h.length
     ·by_cases c4:(l.length:Int)≤64*nb (fm k)
      ·rw[ag (show ¬(l.length/(nb (fm k)).toNat≠h.length/(nb (fm k)).toNat∨NumCalls.MANY<l.length/(nb (fm k)).toNat) from by
        rintro(z | z)
        ·exact z (hlen.mpr c7)
        ·exact(hdiv.mp z) c4),Oe _ _ ho]
       by_cases c5:o≤4
       ·rw[ao c5,ao ⟨⟨⟨c1,c5,c2⟩,Ld,c4⟩,c7⟩,jc]
       ·rw[ag c5,ag fun z=>c5 z.1.1.2.1];rfl
      ·rw[ao (.inr (hdiv.mpr c4)),ag fun z=>c4 z.1.2.2];rfl
     ·rw[ao (.inl fun z=>c7 (hlen.mp z)),ag fun z=>c7 z.2];rfl
    ·have c7:¬l.length=h.length:=fun z=>c6 (by rw[←z];exact c3);rw[ag c6,ag fun z=>c7 z.2];rfl
   ·have Ld:¬(l.length:Int)%nb (fm k)=0:=by rw[u7];exact fun z=>c3 (lX.mp z)
    have PX:¬(((k≤3∧o≤4∧m≤4)∧(l.length:Int)%nb (fm k)=0∧(l.length:Int)≤64*nb (fm k))∧l.length=h.length):=fun z=>Ld z.1.2.1;rw[ag c3,ag PX];rfl
  ·rw[ag fun z=>c2 z.2,ag fun z=>c2 z.1.1.2.2];rfl
 ·rw[ag fun z=>c1 z.1,ag fun z=>c1 z.1.1.1];rfl
theorem IT (t:Fmt) (m:Mode) (f:Nat) {l:List Nat} (h:l.length≤1):t.halved m f l=l.headD 0:=by
 cases f with
 | zero=>unfold Fmt.halved;rw[ox]
 | succ f=>unfold Fmt.halved;rw[ao h,ox]
theorem Le (t:Fmt) (m:Mode) (f:Nat) {l:List Nat} (h:¬l.length≤1):t.halved m (f+1) l=t.halved m f (((l.take (l.length/2)).zip (l.drop (l.length/2))).map fun (p:Nat×Nat)=>t.add m p.1 p.2):=by
 rw[Fmt.halved,ag h]
end BF
namespace BF
open Lw
theorem BX (f:Nat):PyFlat.calls PyWrlnta.shape f []=some []:=by cases f<;>rfl
theorem ze {f:Nat} {p:Int} {r:List Int} {cs:List (List (List Int))} (h:PyFlat.calls PyWrlnta.shape (f+1) (p::r)=some cs) :
  ∃c t u9,PyFlat.call PyWrlnta.shape (p::r)=some (c,t)∧PyFlat.calls PyWrlnta.shape f t=some u9∧cs=c::u9:=by
 unfold PyFlat.calls at h;cases h1:PyFlat.call PyWrlnta.shape (p::r) with
 | none=>rw[h1] at h;cases h
 | some x =>
  obtain⟨c,t⟩:=x;rw[h1] at h;dsimp only at h;cases h2:PyFlat.calls PyWrlnta.shape f t with
  | none=>rw[h2] at h;cases h
  | some u9 =>
   rw[h2] at h;exact⟨c,t,u9,rfl,h2,(bM h).symm⟩
theorem Of {r x s:List Int} (h:PyFlat.row r=some (x,s)):∃n:Int,0≤n∧r=n::(x++s)∧(x.length:Int)=n:=by
 cases r with
 | nil=>cases h
 | cons n r =>
  unfold PyFlat.row at h;dsimp only at h;split at h
  ·next k =>
   injection h with h
   injection h with h1 h2
   refine⟨n,k.1,by rw[←h1,←h2,Ii],?_⟩;rw[←h1,fN];omega
  ·cases h
def bL:List (List Int)→List Int
 | []=>[]
 | x::xs=>(x.length:Int)::(x++bL xs)
theorem BY:∀{k:Nat} {r:List Int} {xs:List (List Int)} {s:List Int},PyFlat.rows k r=some (xs,s)→r=bL xs++s∧xs.length=k
 | 0,r,xs,s,h=>by
  unfold PyFlat.rows at h;injection h with h
  injection h with h1 h2
  subst h1 h2;exact⟨rfl,rfl⟩
 | k+1,r,xs,s,h=>by
  unfold PyFlat.rows at h;cases h1:PyFlat.row r with
  | none=>rw[h1] at h;cases h
  | some y =>
   obtain⟨x,s1⟩:=y;rw[h1] at h;dsimp only at h;cases h2:PyFlat.rows k s1 with
   | none=>rw[h2] at h;cases h
   | some z =>
    obtain⟨ys,s2⟩:=z;rw[h2] at h;dsimp only at h;injection h with h
    injection h with h3 h4
    subst h3 h4;obtain⟨n,n0,e,el⟩:=Of h1;have ⟨e2,e3⟩:=BY h2;refine⟨?_,by rw[cN,e3]⟩;rw[e,e2];show n::(x++(bL ys++s2))=((x.length:Int)::(x++bL ys))++s2;rw[el,IG,kI]
theorem BZ {p:Int} {r:List Int} {c:List (List Int)} {t:List Int} (h:PyFlat.call PyWrlnta.shape (p::r)=some (c,t)) :
  ∃n k W R,PyWrlnta.shape p=some (n,k)∧c=(p::W)::R∧W.length=n∧R.length=k∧p::r=p::(W++(bL R++t)):=by
 unfold PyFlat.call at h;dsimp only at h;cases h1:PyWrlnta.shape p with
 | none=>rw[h1] at h;cases h
 | some x =>
  obtain⟨n,k⟩:=x;rw[h1] at h;dsimp only at h;split at h
  ·cases h
  ·next hl =>
   cases h2:PyFlat.rows k (r.drop n) with
   | none=>rw[h2] at h;cases h
   | some y =>
    obtain⟨xs,s⟩:=y;rw[h2] at h;dsimp only at h;injection h with h
    injection h with h3 h4
    subst h3 h4;have ⟨e1,e2⟩:=BY h2;refine⟨n,k,r.take n,xs,rfl,rfl,by rw[fN];omega,e2,?_⟩;rw[←e1,Ii]
def T8 (c:List (List Int)):Prop:=∃(p:Int) (n k:Nat) (W:List Int) (R:List (List Int)),PyWrlnta.shape p=some (n,k)∧c=(p::W)::R∧W.length=n∧R.length=k
theorem Og {α:Type} {m:List α→Prop} (h:m []):∀l,l.length=0→m l:=fun _ e=>List.eq_nil_of_length_eq_zero e ▸ h
theorem zF {α:Type} {m:List α→Prop} (h:∀a,m [a]):∀l,l.length=1→m l:=by
 intro l e;cases l with
 | nil=>cases e
 | cons a l=>exact Og (m:=fun t=>m (a::t)) (h a) l (sG e)
theorem zG {α:Type} {m:List α→Prop} (h:∀a b,m [a,b]):∀l,l.length=2→m l:=by
 intro l e;cases l with
 | nil=>cases e
 | cons a l=>exact zF (m:=fun t=>m (a::t)) (h a) l (sG e)
theorem B0 {α:Type} {m:List α→Prop} (h:∀a b c,m [a,b,c]):∀l,l.length=3→m l:=by
 intro l e;cases l with
 | nil=>cases e
 | cons a l=>exact zG (m:=fun t=>m (a::t)) (h a) l (sG e)
theorem Xb {α:Type} {m:List α→Prop} (h:∀a b c d,m [a,b,c,d]):∀l,l.length=4→m l:=by
 intro l e;cases l with
 | nil=>cases e
 | cons a l=>exact B0 (m:=fun t=>m (a::t)) (h a) l (sG e)
theorem kl5 {α:Type} {m:List α→Prop} (h:∀a b c d e,m [a,b,c,d,e]):∀l,l.length=5→m l:=by
 intro l e;cases l with
 | nil=>cases e
 | cons a l=>exact Xb (m:=fun t=>m (a::t)) (h a) l (sG e)
theorem kl6 {α:Type} {m:List α→Prop} (h:∀a b c d e f,m [a,b,c,d,e,f]):∀l,l.length=6→m l:=by
 intro l e;cases l with
 | nil=>cases e
 | cons a l=>exact kl5 (m:=fun t=>m (a::t)) (h a) l (sG e)
theorem va {p q:Int} {x y z:Option (Nat×Nat)} {C:Prop} (e:(if p=q then x else y)=z) (a:p=q→x=z→C) (b:y=z→C):C:=by
 by_cases h:p=q
 ·exact a h (by rw[ao h] at e;exact e)
 ·exact b (by rw[ag h] at e;exact e)
theorem oR {p q:Int} {n k n' k':Nat} {W:List Int} {R:List (List Int)} {P:List (List Int)→Prop} (h:∀W R,W.length=n'→R.length=k'→P ((q::W)::R)) (hW:W.length=n) (hR:R.length=k) (z:p=q) (e:some (n',k')=some (n,k)):P ((p::W)::R):=by
 cases e;subst z;exact h W R hW hR
theorem B3 {P:List (List Int)→Prop} (h0:∀a b c u v,P [[0,a,b,c],u,v]) (h1:∀a b u v w,P [[1,a,b],u,v,w]) (h2:∀a b c u,P [[2,a,b,c],u]) (h3:∀a b c u,P [[3,a,b,c],u])
  (h4:∀a b c u v,P [[4,a,b,c],u,v]) (h5:∀a b u v,P [[5,a,b],u,v]) (h6:∀a u,P [[6,a],u]) (h7:∀a b u,P [[7,a,b],u]) (h8:P [[8]]) (h9:∀a u v,P [[9,a],u,v])
  (tW:∀a b,P [[10,a,b]]) (Gw:∀a b c u,P [[11,a,b,c],u]) (h12:∀a b c u v,P [[12,a,b,c],u,v]) (h13:∀a b c d u,P [[13,a,b,c,d],u]) (WW:∀a b c,P [[14,a,b,c]]) {c:List (List Int)} (h:T8 c):P c:=by
 obtain⟨p,n,k,W,R,e,rfl,hW,hR⟩:=h;refine va e (oR (fun W R w r=>B0 (m:=fun W=>P ((0::W)::R)) (fun a b c=>zG (m:=fun R=>P ([0,a,b,c]::R)) (fun u v=>h0 a b c u v) R r) W w) hW hR) fun e=>?_;refine va e (oR (fun W R w r=>zG (m:=fun W=>P ((1::W)::R)) (fun a b=>B0 (m:=fun R=>P ([1,a,b]::R)) (fun u v y=>h1 a b u v y) R r) W w) hW hR) fun e=>?_;refine va e (oR (fun W R w r=>B0 (m:=fun W=>P ((2::W)::R)) (fun a b c=>zF (m:=fun R=>P ([2,a,b,c]::R)) (fun u=>h2 a b c u) R r) W w) hW hR) fun e=>?_;refine va e (oR (fun W R w r=>B0 (m:=fun W=>P ((3::W)::R)) (fun a b c=>zF (m:=fun R=>P ([3,a,b,c]::R)) (fun u=>h3 a b c u) R r) W w) hW hR) fun e=>?_;refine va e (oR (fun W R w r=>B0 (m:=fun W=>P ((4::W)::R)) (fun a b c=>zG (m:=fun R=>P ([4,a,b,c]::R)) (fun u v=>h4 a b c u v) R r) W w) hW hR) fun e=>?_;refine va e (oR (fun W R w r=>zG (m:=fun W=>P ((5::W)::R)) (fun a b=>zG (m:=fun R=>P ([5,a,b]::R)) (fun u v=>h5 a b u v) R r) W w) hW hR) fun e=>?_;refine va e (oR (fun W R w r=>zF (m:=fun W=>P ((6::W)::R)) (fun a=>zF (m:=fun R=>P ([6,a]::R)) (fun u=>h6 a u) R r) W w) hW hR) fun e=>?_;refine va e (oR (fun W R w r=>zG (m:=fun W=>P ((7::W)::R)) (fun a b=>zF (m:=fun R=>P ([7,a,b]::R)) (fun u=>h7 a b u) R r) W w) hW hR) fun e=>?_;refine va e (oR (fun W R w r=>Og (m:=fun W=>P ((8::W)::R)) (Og (m:=fun R=>P ([8]::R)) h8 R r) W w) hW hR) fun e=>?_;refine va e (oR (fun W R w r=>zF (m:=fun W=>P ((9::W)::R)) (fun a=>zG (m:=fun R=>P ([9,a]::R)) (fun u v=>h9 a u v) R r) W w) hW hR) fun e=>?_;refine va e (oR (fun W R w r=>zG (m:=fun W=>P ((10::W)::R)) (fun a b=>Og (m:=fun R=>P ([10,a,b]::R)) (tW a b) R r) W w) hW hR) fun e=>?_;refine va e (oR (fun W R w r=>B0 (m:=fun W=>P ((11::W)::R)) (fun a b c=>zF (m:=fun R=>P ([11,a,b,c]::R)) (fun u=>Gw a b c u) R r) W w) hW hR) fun e=>?_;refine va e (oR (fun W R w r=>B0 (m:=fun W=>P ((12::W)::R)) (fun a b c=>zG (m:=fun R=>P ([12,a,b,c]::R)) (fun u v=>h12 a b c u v) R r) W w) hW hR) fun e=>?_;refine va e (oR (fun W R w r=>Xb (m:=fun W=>P ((13::W)::R)) (fun a b c d=>zF (m:=fun R=>P ([13,a,b,c,d]::R)) (fun u=>h13 a b c d u) R r) W w) hW hR) fun e=>?_;refine va e (oR (fun W R w r=>B0 (m:=fun W=>P ((14::W)::R)) (fun a b c=>Og (m:=fun R=>P ([14,a,b,c]::R)) (WW a b c) R r) W w) hW hR) fun e=>?_;cases e
theorem IW {c:List (List Int)} (h:T8 c):PyWrlnta.whole c=c :=
 B3 (P:=fun c=>PyWrlnta.whole c=c) (fun _ _ _ _ _=>rfl) (fun _ _ _ _ _=>rfl) (fun _ _ _ _=>rfl) (fun _ _ _ _=>rfl) (fun _ _ _ _ _=>rfl) (fun _ _ _ _=>rfl) (fun _ _=>rfl) (fun _ _ _=>rfl) rfl (fun _ _ _=>rfl)
  (fun _ _=>rfl) (fun _ _ _ _=>rfl) (fun _ _ _ _ _=>rfl) (fun _ _ _ _ _=>rfl) (fun _ _ _=>rfl) h
theorem vb:∀{f:Nat} {l:List Int} {cs:List (List (List Int))},PyFlat.calls PyWrlnta.shape f l=some cs→∀c∈cs,T8 c
 | f,[],cs,h=>by rw[BX] at h;cases h;exact fun c hc=>nomatch hc
 | 0,p::r,cs,h=>by cases h
 | f+1,p::r,cs,h=>by
  obtain⟨c,t,u9,h1,h2,rfl⟩:=ze h;intro x hx;rcases cO.1 hx with rfl | hx
  ·obtain⟨n,k,W,R,e,e1,e2,e3,_⟩:=BZ h1;exact⟨p,n,k,W,R,e,e1,e2,e3⟩
  ·exact vb h2 x hx
def Xc (c:List (List Int)):Prop:=NumNeutral.asked1 c=true∧T8 c
theorem IX {l:List Int} {cs:List (List (List Int))} (h:PyFlat.calls PyWrlnta.shape l.length l=some cs):PyWrlnta.answers l=PyFlat.told (PyFlat.played NumNeutral.step NumNeutral.start cs) ∧
  (PyWrlnta.answers_asked l=true→cs.length≤400∧cs≠[]∧∀c∈cs,Xc c):=by
 have e:PyWrlnta.calls l=some cs:=by
  unfold PyWrlnta.calls;rw[h];dsimp only;congr 1;rw[List.map_congr_left fun c hc=>(IW (vb h c hc)).trans (id_eq (a:=c)).symm];exact List.map_id cs
 refine⟨by unfold PyWrlnta.answers;rw[e],fun ha=>?_⟩;unfold PyWrlnta.answers_asked at ha;rw[e] at ha;dsimp only at ha;unfold NumNeutral.asked PyFlat.atMost at ha;simp only[Bool.and_eq_true,decide_eq_true_iff,Bool.not_eq_true',List.all_eq_true] at ha;exact⟨ha.1,fun z=>by rw[z] at ha;simp at ha,fun c hc=>⟨ha.2.2.2 c hc,vb h c hc⟩⟩
theorem IY {l:List Int} (h:PyWrlnta.answers_asked l=true):∃cs,PyFlat.calls PyWrlnta.shape l.length l=some cs:=by
 unfold PyWrlnta.answers_asked PyWrlnta.calls at h;cases e:PyFlat.calls PyWrlnta.shape l.length l with
 | none=>rw[e] at h;cases h
 | some cs=>exact⟨cs,rfl⟩
def k4:List (Int×Int):=[(3,2),(2,3),(3,1),(3,1),(3,2),(2,2),(1,1),(2,1),(0,0),(1,2),(2,0),(3,1),(3,2),(4,1),(3,0)]
theorem IZ {p:Int} {n k:Nat} (h:PyWrlnta.shape p=some (n,k)):0≤p∧p≤14∧k4[p.toNat]?=some ((n:Int),(k:Int)):=by
 have hp:0≤p∧p≤14:=by
  refine qS fun z=>?_;unfold PyWrlnta.shape at h;simp only[show p≠0 by omega,show p≠1 by omega,show p≠2 by omega,show p≠3 by omega,show p≠4 by omega,show p≠5 by omega,show p≠6 by omega,show p≠7 by omega,show p≠8 by omega,show p≠9 by omega,
   show p≠10 by omega,show p≠11 by omega,show p≠12 by omega,show p≠13 by omega,show p≠14 by omega,aM] at h
  cases h
 refine⟨hp.1,hp.2,?_⟩;have key:∀q:Nat,q≤14→PyWrlnta.shape (q:Int)=(k4[q]?).map fun x=>(x.1.toNat,x.2.toNat):=by decide
 obtain⟨q,rfl⟩:=aA hp.1;have aak:∀q:Nat,q≤14→∃x:Int×Int,k4[q]?=some x∧0≤x.1∧0≤x.2:=by
  intro q hq;have:∀q:Nat,q≤14→(match k4[q]? with
   | some x=>decide (0≤x.1∧0≤x.2)
   | none=>false)=true:=by decide
  have:=this q hq;cases e:k4[q]? with
  | none=>rw[e] at this;cases this
  | some x=>rw[e] at this;exact⟨x,rfl,eV this⟩
 obtain⟨x,ex,x1,x2⟩:=aak q Kk;have:=key q Kk;rw[h,ex] at this;simp only[rp,Option.some.injEq,Prod.mk.injEq] at this;show k4[q]?=_;rw[ex];congr 1;apply Prod.ext
 ·show x.1=_;omega
 ·show x.2=_;omega
end BF
namespace BF
open Lw
structure ip (p unit d E:Int):Prop where
 u0:0<unit
 d0:0<d
 eq:(unit:Rat)*ten E=two (p-2)*d
theorem ip.start (p:Int):ip p (1*2^(if (0:Int)>p-2 then 0 else p-2).toNat) (1*2^(if (0:Int)>2-p then 0 else 2-p).toNat) 0:=by
 rw[de,de];refine⟨aX _,aX _,?_⟩;rw[jW,cI];by_cases h:0≤p-2
 ·rw[ag (show ¬(0:Int)>p-2 by omega),show (if (0:Int)>2-p then (0:Int) else 2-p).toNat=0 by split<;>omega,show ((2^0:Int):Rat)=1 from rfl,cI,←gd];congr 1;omega
 ·rw[ao (show (0:Int)>p-2 by omega),ag (show ¬(0:Int)>2-p by omega)];show ((2^0:Int):Rat)=_;rw[show ((2^0:Int):Rat)=1 from rfl,←gd,←aY];rw[show p-2+(((2-p).toNat:Nat):Int)=0 by omega,dg]
theorem ip.I0 {p u d E:Int} (h:ip p u d E):ip p u (10*d) (E+1):=by
 refine⟨h.u0,by have:=h.d0;omega,?_⟩;have e:=h.eq;rw[tj,bh];show (u:Rat)*(10*ten E)=two (p-2)*(10*(d:Rat));grind
theorem ip.Xd {p u d E:Int} (h:ip p u d E):ip p (10*u) d (E-1):=by
 refine⟨by have:=h.u0;omega,h.d0,?_⟩;have e:=h.eq;rw[bh];have t:ten E=10*ten (E-1):=by rw[←tj];congr 1;omega
 rw[t] at e;show (10*(u:Rat))*ten (E-1)=_;grind
theorem ip.val {p u d E:Int} (h:ip p u d E) (S:Int):((4*S*u:Int):Rat)*ten E=(S:Rat)*two p*d:=by
 have p4:two p=4*two (p-2):=by
  have:two p=two 2*two (p-2):=by rw[←aY];congr 1;omega
  rw[this];rfl
 rw[bh,bh,bV,h.eq,p4];show (4:Rat)*S*_=_;grind
theorem ip.ge10 {p u d E:Int} (h:ip p u d E) (S:Int):10*d≤4*S*u↔ten (E+1)≤(S:Rat)*two p:=by
 rw[←oW,←ID E,h.val S];have:(((10*d:Int)):Rat)*ten E=ten (E+1)*d:=by
  rw[tj,bh];show (10:Rat)*d*_=_;grind
 rw[this];rw[←dZ,←dZ,jZ h.d0]
theorem ip.lt {p u d E:Int} (h:ip p u d E) (S:Int):4*S*u<d↔(S:Rat)*two p<ten E:=by
 rw[←mC,←jY E,h.val S,fc (d:Rat)];exact jZ h.d0
theorem tD {k:Int} {S p:Int} {X:Nat} (N:Norm (fm k) S p X):ten (-325)≤(S:Rat)*two p∧(S:Rat)*two p<ten 309∧-1100≤log2 ((S:Rat)*two p)∧log2 ((S:Rat)*two p)≤1100∧0<(S:Rat)*two p:=by
 have sm:=gM k;have ⟨a,b⟩:=K9 (dm k) N;have q0:0<(S:Rat)*two p:=fF (fb.mpr N.s0) (two_pos p);have ⟨c,d⟩:=g7 q0;have l1:=(ow (L:=-1074) Ke Ke).1;have l2:=(ow (L:=1023) Ke Ke).2;have e1:two (-1074)≤two (log2 ((S:Rat)*two p)):=gr Kk;have e2:two (log2 ((S:Rat)*two p)+1)≤two (1023+1):=gr Kk;have f1:((-1074:Int)*30103/100000-1)=-325:=by decide
 have f2:((1023:Int)*30103/100000+2)=309:=by decide
 rw[f1] at l1;rw[f2] at l2;exact⟨by grind,by grind,Kk,Kk,q0⟩
theorem Fo:∀(f d:Nat) (e:Int),(stripped f d e).1≤d∧e≤(stripped f d e).2∧(stripped f d e).2≤e+f
 | 0,d,e=>⟨bB _,oG _,by show e≤e+0;omega⟩
 | f+1,d,e=>by
  unfold stripped;split
  ·have ⟨a,b,c⟩:=Fo f (d/10) (e+1);exact⟨Kk,Kk,Kk⟩
  ·exact⟨bB _,oG _,by show e≤e+((f+1:Nat):Int);omega⟩
theorem Ja {k:Int} {S p:Int} {X:Nat} (N:Norm (fm k) S p X) {i d:Nat} (hi:i<17) (h:js (fm k) X ((S:Rat)*two p) (log10 ((S:Rat)*two p)-i)=some d):0<d∧d≤10^17:=by
 have ⟨a,b,c,e,q0⟩:=tD N;have ⟨l1,l2⟩:=nY q0 c e;have t:ten (log10 ((S:Rat)*two p)-i)≤ten (log10 ((S:Rat)*two p)):=ql Kk;have ⟨z,f⟩:=IH (Bf t l1) h;refine⟨z,bZ (f (i+1) ?_) (fA Ke Kk)⟩;rw[show log10 ((S:Rat)*two p)-(i:Int)+((i+1:Nat):Int)=log10 ((S:Rat)*two p)+1 by omega];exact l2
theorem Gx {k:Int} {S p:Int} {X:Nat} (N:Norm (fm k) S p X):-326≤log10 ((S:Rat)*two p)∧log10 ((S:Rat)*two p)≤309:=by
 have ⟨a,b,c,e,q0⟩:=tD N;have ⟨l1,l2⟩:=nY q0 c e;have x:=jX.mp (show ten (-325)<ten (log10 ((S:Rat)*two p)+1) by grind);have y:=jX.mp (show ten (log10 ((S:Rat)*two p))<ten 309 by grind);omega
theorem MJ {k:Int} {S p:Int} {X:Nat} (N:Norm (fm k) S p X):∃D,js (fm k) X ((S:Rat)*two p) (log10 ((S:Rat)*two p)-(16:Nat))=some D:=by
 have ⟨a,b,c,e,q0⟩:=tD N;have ⟨l1,l2⟩:=nY q0 c e;refine found (fm k) (dm k) (gM k).1 N ?_;rw[show log10 ((S:Rat)*two p)-((16:Nat):Int)+16=log10 ((S:Rat)*two p) by omega];exact l1
theorem Gy {k:Int} {S p:Int} {X:Nat} (N:Norm (fm k) S p X):(shortest (fm k) X ((S:Rat)*two p)).1≤10^17∧-400≤(shortest (fm k) X ((S:Rat)*two p)).2∧(shortest (fm k) X ((S:Rat)*two p)).2≤400:=by
 have ⟨D,hD⟩:=MJ N;have ls:=Gx N;have main:∀n:Nat,n≤16→(∀i:Nat,i<16-n→js (fm k) X ((S:Rat)*two p) (log10 ((S:Rat)*two p)-i)=none)→∃i d,i<17∧(∀j:Nat,j<i→js (fm k) X ((S:Rat)*two p) (log10 ((S:Rat)*two p)-j)=none)∧js (fm k) X ((S:Rat)*two p) (log10 ((S:Rat)*two p)-i)=some d:=by
  intro n
  induction n with
  | zero=>exact fun _ h=>⟨16,D,Ke,h,hD⟩
  | succ n ih =>
   intro hn h;cases e:js (fm k) X ((S:Rat)*two p) (log10 ((S:Rat)*two p)-((16-(n+1):Nat):Int)) with
   | some d=>exact⟨16-(n+1),d,Kk,h,e⟩
   | none =>
    refine ih Kk fun i hi=>?_;by_cases c:i<16-(n+1)
    ·exact h i c
    ·rw[show i=16-(n+1) by omega];exact e
 obtain⟨i,d,hi,h1,h2⟩:=main 16 (bB _) (fun i hi=>absurd hi Kk);rw[wu (fm k) X _ hi h1 h2];have ⟨a,b,c⟩:=Fo 20 d (log10 ((S:Rat)*two p)-i);have:=(Ja N hi h2).2;exact⟨Kk,Kk,Kk⟩
theorem QN {k:Int} {X Y:Nat} {s:Bool} {q:Rat} (d:(fm k).kind X=.num s q) (m:(X:Int)%aU (fm k)=Y):(fm k).abs X=Y:=by
 unfold Fmt.abs Fmt.isNan;rw[d];rw[←dY] at m;show (if false=true then _ else _)=_;rw[ag Ke];omega
theorem Lf {k:Int} {X:Nat} (hx:X<2*(fm k).sign) (h1:cp (fm k) X=false) (h2:hJ (fm k) X=false) (h3:eC (fm k) X=false) :
  ∃(Y:Nat) (s:Bool) (q:Rat),(fm k).kind X=.num s q∧size q=((ta (fm k) (X:Int)).size:Rat)*two (ta (fm k) (X:Int)).power∧(fm k).abs X=Y∧Norm (fm k) (ta (fm k) (X:Int)).size (ta (fm k) (X:Int)).power Y:=by
 rcases way (fm k) (dm k) hx with ⟨a,b⟩ | ⟨s,a,b,c,d,e⟩ | ⟨s,Y,S,p,a,b,c,d,e,f,g,i,j,l,m⟩
 ·rw[a] at h1;cases h1
 ·rw[b] at h2;cases h2
 ·have Oh:=h3;rw[c] at h3;have s0:S≠0:=lO h3;unfold cp at a;unfold hJ at b;unfold eC at Oh;have n1:=lO a;have n2:=lO b;have n3:=lO Oh;obtain⟨S',p',e1,N⟩:=QJ (fm k) s (X:=Y) Kk Kk;rw[←l,f] at e1;obtain⟨rfl,rfl⟩:S=S'∧p=p':=by
   unfold bN at e1;injection e1 with _ _ _ q1 q2
   exact⟨q1,q2⟩
  refine⟨Y,s,_,d,?_,QN d m,by rw[f];exact N⟩;rw[f];have q0:0<(S:Rat)*two p:=fF (fb.mpr N.s0) (two_pos p);show size _=(S:Rat)*two p;unfold size bK;cases s
  ·show (if (S:Rat)*two p<0 then _ else _)=_;rw[ag (by grind)];rfl
  ·show (if -((S:Rat)*two p)<0 then _ else _)=_;rw[ao (by grind)];show - -_=_;grind
end BF
namespace BF
open Lw
def QO (b:Bytes):Bool:=decide ((b.drop 1).take 1=[43])||decide ((b.drop 1).take 1=[45])
def kr (b:Bytes):Bytes:=if QO b=true then b.drop 2 else b.drop 1
def uy (b:Bytes):Bool:=decide (kr b=[])||(decide (3<(kr b).length)||decide (((kr b).takeWhile isDigit).length<(kr b).length))
theorem take1 {s:Bytes} {c:UInt8}:s.take 1=[c]↔s.head?=some c:=by
 cases s<;>simp
theorem qo (p:UInt8→Bool):∀x:Bytes,(x.takeWhile p).length<x.length↔x.all p=false
 | []=>by simp
 | c::x=>by
  have ih:=qo p x;by_cases h:p c=true
  ·rw[sR,ao h,uF,h,eX,←ih,cN,cN];omega
  ·rw[sR,ag h,uF,aV _ |>.mp h];simp
theorem n6 {b:Bytes} (h:b≠[]):fZ b=if (b.getD 0 0).toNat≠101∧(b.getD 0 0).toNat≠69 then none else if uy b=true then none else some (if (b.getD 1 0).toNat=45 then -((numberOf (kr b):Nat):Int) else ((numberOf (kr b):Nat):Int)):=by
 cases b with
 | nil=>exact absurd rfl h
 | cons c s =>
  unfold fZ;dsimp only;have e0:(c::s).getD 0 0=c:=rfl;have k1:c.toNat≠101↔c≠101:=⟨fun z w=>z (by rw[w];rfl),fun z w=>z (UInt8.toNat_inj.mp (by rw[w];rfl))⟩;have k2:c.toNat≠69↔c≠69:=⟨fun z w=>z (by rw[w];rfl),fun z w=>z (UInt8.toNat_inj.mp (by rw[w];rfl))⟩;rw[e0];simp only[k1,k2];by_cases hc:c≠101∧c≠69
  ·rw[ao hc,ao hc]
  ·rw[ag hc,ag hc];have hs:QO (c::s)=true↔(s.head?=some 43∨s.head?=some 45):=by
    unfold QO;rw[bR,bj,bj];show (s.take 1=[43]∨s.take 1=[45])↔_;rw[take1,take1]
   have hd:kr (c::s)=if s.head?=some 43∨s.head?=some 45 then s.drop 1 else s:=by
    unfold kr;simp only[hs];rfl
   rw[←hd];have hb:uy (c::s)=true↔(kr (c::s)=[]∨3<(kr (c::s)).length∨(kr (c::s)).all isDigit=false):=by
    unfold uy;rw[bR,bR,bj,bj,bj,qo]
   by_cases kb:uy (c::s)=true
   ·rw[ao kb,ao (hb.mp kb)]
   ·rw[ag kb,ag fun z=>kb (hb.mpr z)];have e1:((c::s).getD 1 0).toNat=45↔s.head?=some 45:=by
     cases s with
     | nil =>
      have:kr [c]=[]:=by rw[hd];simp
      exact absurd (hb.mpr (.inl this)) kb
     | cons d r =>
      show d.toNat=45↔some d=some 45;exact⟨fun z=>by rw[UInt8.toNat_inj.mp (show d.toNat=(45:UInt8).toNat from z)],fun z=>by injection z with z;rw[z];rfl⟩
    simp only[e1]
theorem B4 {b:Bytes} (h:¬uy b=true):2≤b.length∧(∀c∈kr b,48≤c.toNat)∧(kr b).length≤3:=by
 unfold uy at h;rw[bR,bR,bj,bj,bj,qo] at h;refine⟨?_,fun c hc=>?_,Kk⟩
 ·refine Nat.not_lt.mp fun z=>h (.inl ?_);unfold kr;split
  ·exact xJ Kk
  ·exact xJ Kk
 ·have:(kr b).all isDigit=true:=IU _ |>.mp fun z=>h (.inr (.inr z));have:=nB.mp this c hc;unfold isDigit at this;rw[b5,bj] at this;exact this.1
theorem kT {b:Bytes} {e:Int} (h:fZ b=some e):-1000≤e∧e≤1000:=by
 by_cases hb:b=[]
 ·subst hb;injection h with h
  omega
 ·rw[n6 hb] at h;split at h
  ·cases h
  ·split at h
   ·cases h
   ·next kb =>
    have ⟨l1,l2,l3⟩:=B4 kb;have n3:numberOf (kr b)<1000:=by
     have gen:∀(x:Bytes) (n:Nat),x.all isDigit=true→x.foldl (fun (n:Nat) (c:UInt8)=>10*n+(c.toNat-48)) n<(n+1)*10^x.length:=by
      intro x
      induction x with
      | nil=>intro n _;simp
      | cons c x ih =>
       intro n hx;rw[uF,b5] at hx;have hc:=hx.1;unfold isDigit at hc;rw[b5,bj,bj] at hc;have:=ih (10*n+(c.toNat-48)) hx.2;rw[cN,gZ];have k:=vZ (10^x.length) (show 10*n+(c.toNat-48)+1≤(n+1)*10 by omega);rw[wk,eG 10 (10^x.length)] at k;exact cg this k
     have ad:(kr b).all isDigit=true:=by
      unfold uy at kb;rw[bR,bR,bj,bj,bj,qo] at kb;exact IU _ |>.mp fun z=>kb (.inr (.inr z))
     have:=gen (kr b) 0 ad;have p:(10:Nat)^(kr b).length≤10^3:=fA Ke l3;unfold numberOf;omega
    injection h with h
    split at h<;>omega
def wB (b:Bytes):Bytes:=b.takeWhile isDigit
def fB (b:Bytes):Bytes:=(b.drop ((wB b).length+1)).takeWhile isDigit
theorem rR (p:UInt8→Bool):∀x:Bytes,x.take (x.takeWhile p).length=x.takeWhile p
 | []=>rfl
 | c::x=>by
  rw[sR];split
  ·rw[cN,List.take_succ_cons,rR p x]
  ·rfl
theorem mQ {b:Bytes} (h:(b.drop (wB b).length).take 1=[46]):gR b=if fB b=[] then none else if wB b=[] then none else (fZ (b.drop ((wB b).length+1+(fB b).length))).map fun (e:Int)=>(numberOf (wB b++fB b),e-((fB b).length:Int)):=by
 have h':=take1.mp h;cases hr:b.drop (wB b).length with
 | nil=>rw[hr] at h';cases h'
 | cons c s =>
  rw[hr] at h';injection h' with h'
  subst h';have hs:b.drop ((wB b).length+1)=s:=by rw[←mh,hr];rfl
  have Nr:b.drop ((wB b).length+1+(fB b).length)=s.drop (fB b).length:=by rw[←mh,hs]
  have ef:fB b=s.takeWhile isDigit:=by unfold fB;rw[hs]
  rw[yZ (b:=b) hr,Nr,ef];rfl
theorem qp {b:Bytes} (h:¬(b.drop (wB b).length).take 1=[46]):gR b=if wB b=[] then none else (fZ (b.drop (wB b).length)).map fun e=>(numberOf (wB b),e):=by
 cases hr:b.drop (wB b).length with
 | nil=>rw[wx (b:=b) hr];rfl
 | cons c s =>
  refine yY (b:=b) hr fun z=>h ?_;rw[hr,z];rfl
end BF
namespace BF
open Lw
inductive Ask:List (List Int)→Prop
 | op (a b c:Int) (u v:List Int):0≤a→0≤b→0≤c→cS u→cS v→Ask [[0,a,b,c],u,v]
 | fma (a b:Int) (u v x:List Int):0≤a→0≤b→cS u→cS v→cS x→Ask [[1,a,b],u,v,x]
 | scale (a b e:Int) (u:List Int):0≤a→0≤b→cS u→Ask [[2,a,b,e],u]
 | conv (a b c:Int) (u:List Int):0≤a→0≤b→0≤c→cS u→Ask [[3,a,b,c],u]
 | fn (a b c:Int) (u v:List Int):0≤a→0≤b→0≤c→cS u→cS v→Ask [[4,a,b,c],u,v]
 | cmp (a b:Int) (u v:List Int):0≤a→0≤b→cS u→cS v→Ask [[5,a,b],u,v]
 | text (a:Int) (u:List Int):0≤a→cS u→Ask [[6,a],u]
 | read (a b:Int) (u:List Int):0≤a→0≤b→cS u→u.length≤20000→Ask [[7,a,b],u]
 | clear:Ask [[8]]
 | add (a:Int) (u v:List Int):0≤a→cS u→cS v→Ask [[9,a],u,v]
 | get (a b:Int):0≤a→0≤b→Ask [[10,a,b]]
 | sum (a b c:Int) (u:List Int):0≤a→0≤b→0≤c→cS u→u.length≤20000→Ask [[11,a,b,c],u]
 | dot (a b c:Int) (u v:List Int):0≤a→0≤b→0≤c→cS u→cS v→u.length≤20000→Ask [[12,a,b,c],u,v]
 | whole (a b c d:Int) (u:List Int):0≤a→0≤b→0≤c→0≤d→cS u→Ask [[13,a,b,c,d],u]
 | float (a b z:Int):0≤a→0≤b→-9007199254740992≤z→z≤9007199254740992→Ask [[14,a,b,z]]
theorem dP {u:List Int} {n:Nat} (h:NumNeutral.long u n 0 255=true):cS u∧u.length≤n:=by
 unfold NumNeutral.long at h;rw[b5,bj,nB] at h;exact⟨fun x hx=>by have:=h.2 x hx;rw[b5,bj,bj] at this;exact this,h.1⟩
theorem cf {z:Int} (h:NumNeutral.natural z 53=true):0≤z:=by
 unfold NumNeutral.natural at h;rw[b5,bj] at h;exact h.1
theorem bt {a b:Bool} (h:(a&&b)=true):a=true∧b=true:=(b5 _ _).mp h
theorem T9 {c:List (List Int)} (h:Xc c):Ask c:=by
 obtain⟨h,hf⟩:=h;revert h;refine B3 (P:=fun c=>NumNeutral.asked1 c=true→Ask c) ?_ ?_ ?_ ?_ ?_ ?_ ?_ ?_ ?_ ?_ ?_ ?_ ?_ ?_ ?_ hf
 ·intro a b c u v h;replace h:(NumNeutral.natural a 53&&(NumNeutral.natural b 53&&(NumNeutral.natural c 53&&(NumNeutral.long u 8 0 255&&NumNeutral.long v 8 0 255))))=true:=h;obtain⟨h0,h⟩:=bt h;obtain⟨h1,h⟩:=bt h;obtain⟨h2,h⟩:=bt h;obtain⟨h3,h⟩:=bt h;have h4:=h;exact .op _ _ _ _ _ (cf h0) (cf h1) (cf h2) (dP h3).1 (dP h4).1
 ·intro a b u v w h;replace h:(NumNeutral.natural a 53&&(NumNeutral.natural b 53&&(NumNeutral.long u 8 0 255&&(NumNeutral.long v 8 0 255&&NumNeutral.long w 8 0 255))))=true:=h;obtain⟨h0,h⟩:=bt h;obtain⟨h1,h⟩:=bt h;obtain⟨h2,h⟩:=bt h;obtain⟨h3,h⟩:=bt h;have h4:=h;exact .fma _ _ _ _ _ (cf h0) (cf h1) (dP h2).1 (dP h3).1 (dP h4).1
 ·intro a b c u h;replace h:(NumNeutral.natural a 53&&(NumNeutral.natural b 53&&(NumNeutral.whole53 c&&NumNeutral.long u 8 0 255)))=true:=h;obtain⟨h0,h⟩:=bt h;obtain⟨h1,h⟩:=bt h;obtain⟨h2,h⟩:=bt h;have h3:=h;exact .scale _ _ _ _ (cf h0) (cf h1) (dP h3).1
 ·intro a b c u h;replace h:(NumNeutral.natural a 53&&(NumNeutral.natural b 53&&(NumNeutral.natural c 53&&NumNeutral.long u 8 0 255)))=true:=h;obtain⟨h0,h⟩:=bt h;obtain⟨h1,h⟩:=bt h;obtain⟨h2,h⟩:=bt h;have h3:=h;exact .conv _ _ _ _ (cf h0) (cf h1) (cf h2) (dP h3).1
 ·intro a b c u v h;replace h:(NumNeutral.natural a 53&&(NumNeutral.natural b 53&&(NumNeutral.natural c 53&&(NumNeutral.long u 8 0 255&&NumNeutral.long v 8 0 255))))=true:=h;obtain⟨h0,h⟩:=bt h;obtain⟨h1,h⟩:=bt h;obtain⟨h2,h⟩:=bt h;obtain⟨h3,h⟩:=bt h;have h4:=h;exact .fn _ _ _ _ _ (cf h0) (cf h1) (cf h2) (dP h3).1 (dP h4).1
 ·intro a b u v h;replace h:(NumNeutral.natural a 53&&(NumNeutral.natural b 53&&(NumNeutral.long u 8 0 255&&NumNeutral.long v 8 0 255)))=true:=h;obtain⟨h0,h⟩:=bt h;obtain⟨h1,h⟩:=bt h;obtain⟨h2,h⟩:=bt h;have h3:=h;exact .cmp _ _ _ _ (cf h0) (cf h1) (dP h2).1 (dP h3).1
 ·intro a u h;replace h:(NumNeutral.natural a 53&&NumNeutral.long u 8 0 255)=true:=h;obtain⟨h0,h⟩:=bt h;have h1:=h;exact .text _ _ (cf h0) (dP h1).1
 ·intro a b u h;replace h:(NumNeutral.natural a 53&&(NumNeutral.natural b 53&&NumNeutral.long u 100 0 255))=true:=h;obtain⟨h0,h⟩:=bt h;obtain⟨h1,h⟩:=bt h;have h2:=h;exact .read _ _ _ (cf h0) (cf h1) (dP h2).1 (bZ (dP h2).2 Ke)
 ·exact fun _=>.clear
 ·intro a u v h;replace h:(NumNeutral.natural a 53&&(NumNeutral.long u 8 0 255&&NumNeutral.long v 8 0 255))=true:=h;obtain⟨h0,h⟩:=bt h;obtain⟨h1,h⟩:=bt h;have h2:=h;exact .add _ _ _ (cf h0) (dP h1).1 (dP h2).1
 ·intro a b h;replace h:(NumNeutral.natural a 53&&NumNeutral.natural b 53)=true:=h;obtain⟨h0,h⟩:=bt h;have h1:=h;exact .get _ _ (cf h0) (cf h1)
 ·intro a b c u h;replace h:(NumNeutral.natural a 53&&(NumNeutral.natural b 53&&(NumNeutral.natural c 53&&NumNeutral.long u 1000 0 255)))=true:=h;obtain⟨h0,h⟩:=bt h;obtain⟨h1,h⟩:=bt h;obtain⟨h2,h⟩:=bt h;have h3:=h;exact .sum _ _ _ _ (cf h0) (cf h1) (cf h2) (dP h3).1 (bZ (dP h3).2 Ke)
 ·intro a b c u v h;replace h:(NumNeutral.natural a 53&&(NumNeutral.natural b 53&&(NumNeutral.natural c 53&&(NumNeutral.long u 1000 0 255&&NumNeutral.long v 1000 0 255))))=true:=h;obtain⟨h0,h⟩:=bt h;obtain⟨h1,h⟩:=bt h;obtain⟨h2,h⟩:=bt h;obtain⟨h3,h⟩:=bt h;have h4:=h;exact .dot _ _ _ _ _ (cf h0) (cf h1) (cf h2) (dP h3).1 (dP h4).1 (bZ (dP h3).2 Ke)
 ·intro a b c d u h;replace h:(NumNeutral.natural a 53&&(NumNeutral.natural b 53&&(NumNeutral.natural c 53&&(NumNeutral.natural d 53&&NumNeutral.long u 8 0 255))))=true:=h;obtain⟨h0,h⟩:=bt h;obtain⟨h1,h⟩:=bt h;obtain⟨h2,h⟩:=bt h;obtain⟨h3,h⟩:=bt h;have h4:=h;exact .whole _ _ _ _ _ (cf h0) (cf h1) (cf h2) (cf h3) (dP h4).1
 ·intro a b z h;replace h:(NumNeutral.natural a 53&&(NumNeutral.natural b 53&&NumNeutral.whole53 z))=true:=h;obtain⟨h0,h⟩:=bt h;obtain⟨h1,h⟩:=bt h;have h2:=h;unfold NumNeutral.whole53 at h2;rw[b5,bj,bj] at h2;exact .float _ _ _ (cf h0) (cf h1) Kk Kk
def pz (c:List (List Int)):Prop:=∀s:St,NumNeutral.step s c=(s,(NumNeutral.step NumCalls.start c).2)
theorem iP {c:List (List Int)} {x:List Int} (h:∀s:St,NumNeutral.step s c=(s,x)):pz c:=fun s=>by rw[h s,h NumCalls.start]
theorem QP {a b c:Int} {u v:List Int} (ha:0≤a) (hb:0≤b) (hc:0≤c) (hu:cS u) (hv:cS v):pz [[0,a,b,c],u,v]:=iP fun s=>Gs s ha hb hc hu hv
theorem Oi {a b:Int} {u v x:List Int} (ha:0≤a) (hb:0≤b) (hu:cS u) (hv:cS v) (hx:cS x):pz [[1,a,b],u,v,x]:=iP fun s=>Ax s ha hb hu hv hx
theorem Jb {a b e:Int} {u:List Int} (ha:0≤a) (hb:0≤b) (hu:cS u):pz [[2,a,b,e],u]:=iP fun s=>tu s ha hb hu
theorem Lg {a b c:Int} {u:List Int} (ha:0≤a) (hb:0≤b) (hc:0≤c) (hu:cS u):pz [[3,a,b,c],u]:=iP fun s=>wC s ha hb hc hu
theorem QQ {a b c:Int} {u v:List Int} (ha:0≤a) (hb:0≤b) (hc:0≤c) (hu:cS u) (hv:cS v):pz [[4,a,b,c],u,v]:=iP fun s=>Gu s ha hb hc hu hv
theorem Oj {a b:Int} {u v:List Int} (ha:0≤a) (hb:0≤b) (hu:cS u) (hv:cS v):pz [[5,a,b],u,v]:=iP fun s=>Ay s ha hb hu hv
theorem Lh {a:Int} {u:List Int} (ha:0≤a) (hu:cS u):pz [[6,a],u]:=iP fun s=>wD s ha hu
theorem Li {a b:Int} {u:List Int} (ha:0≤a) (hb:0≤b):pz [[7,a,b],u]:=iP fun s=>rQ s ha hb u
theorem Ol {a b c:Int} {u:List Int} (ha:0≤a) (hb:0≤b) (hc:0≤c) (hu:cS u):pz [[11,a,b,c],u]:=iP fun s=>AA s ha hb hc hu
theorem Om {a b c:Int} {u v:List Int} (ha:0≤a) (hb:0≤b) (hc:0≤c) (hu:cS u) (hv:cS v):pz [[12,a,b,c],u,v]:=iP fun s=>AD s ha hb hc hu hv
theorem Jc {a b c d:Int} {u:List Int} (ha:0≤a) (hb:0≤b) (hc:0≤c) (hd:0≤d) (hu:cS u):pz [[13,a,b,c,d],u]:=iP fun s=>tw s ha hb hc hd hu
theorem Jd {a b z:Int} (ha:0≤a) (hb:0≤b):pz [[14,a,b,z]]:=iP fun s=>tx s z ha hb
end BF
namespace BF
open Lw
theorem qr:∀xs ys:List (List Int),bL (xs++ys)=bL xs++bL ys
 | [],_=>rfl
 | x::xs,ys=>by
  show (x.length:Int)::(x++bL (xs++ys))=(x.length:Int)::(x++bL xs)++bL ys;rw[qr xs ys,IG,kI]
theorem Lj {l:List Int} {S:Nat} {R:List (List Int)} {t:List Int} (h:l.drop S=bL R++t) {i:Nat} {r:List Int} (hi:R[i]?=some r) :
  l.drop (S+(bL (R.take i)).length)=(r.length:Int)::(r++(bL (R.drop (i+1))++t))∧(bL (R.take (i+1))).length=(bL (R.take i)).length+1+r.length:=by
 have oU:=(hG.mp hi).1;have hr:=(hG.mp hi).2;have e:R=R.take i++(r::R.drop (i+1)):=by
  rw[←hr,←IV oU,Ii]
 constructor
 ·rw[←mh,h];have:bL R=bL (R.take i)++((r.length:Int)::(r++bL (R.drop (i+1)))):=by
   have:=a7 bL e;rw[qr] at this;exact this
  rw[this,kI,JY];rw[IG,kI]
 ·rw[sV,hi,xS,qr,cT];show _+((r.length:Int)::(r++[])).length=_;rw[cN,fW];omega
theorem Fq:∀R:List (List Int),((bL R).length:Int)=(R.map fun r=>(1:Int)+r.length).sum
 | []=>rfl
 | r::R=>by
  rw[fU,List.sum_cons,←Fq R];show (((r.length:Int)::(r++bL R)).length:Int)=_;rw[cN,cT];omega
theorem Je {f:Nat} {l:List Int} {cs:List (List (List Int))} (h:PyFlat.calls PyWrlnta.shape f l=some cs) (hl:l≠[]) :
  ∃f' p W R t u9,PyWrlnta.shape p=some (W.length,R.length)∧l=p::(W++(bL R++t))∧cs=((p::W)::R)::u9∧PyFlat.calls PyWrlnta.shape f' t=some u9:=by
 cases l with
 | nil=>exact absurd rfl hl
 | cons p r =>
  cases f with
  | zero=>cases h
  | succ f =>
   obtain⟨c,t,u9,h1,h2,rfl⟩:=ze h;obtain⟨n,k,W,R,e1,rfl,e2,e3,e4⟩:=BZ h1;subst e2 e3;exact⟨f,p,W,R,t,u9,e1,e4,rfl,h2⟩
theorem Lk {f:Nat} {cs:List (List (List Int))} (h:PyFlat.calls PyWrlnta.shape f []=some cs):cs=[]:=by
 rw[BX] at h;exact(bM h).symm
end BF
namespace G
open PySem PySem.Spec PyProof.Rows L2
abbrev RR:=Addr→Value→Around→List Env→Shared→Prop
abbrev GG:=Addr→Value→Around→List Env→Shared→Hp→List V→VK→XK→Prop
theorem bg {α:Type} {p1 q:α→Prop} {a} (e1:p1 a) (h:q a):∃a,p1 a∧q a:=⟨a,e1,h⟩
theorem eH {α:Type} {p1 p2 q:α→Prop} {a} (e1:p1 a) (e2:p2 a) (h:q a):∃a,p1 a∧p2 a∧q a:=⟨a,e1,e2,h⟩
theorem bG {α β:Type} {p1 p2 q:α→β→Prop} {a b} (e1:p1 a b) (e2:p2 a b) (h:q a b):∃a b,p1 a b∧p2 a b∧q a b:=⟨a,b,e1,e2,h⟩
theorem bJ {α β:Type} {p1 p2 p3 q:α→β→Prop} {a b} (e1:p1 a b) (e2:p2 a b) (e3:p3 a b) (h:q a b):∃a b,p1 a b∧p2 a b∧p3 a b∧q a b:=⟨a,b,e1,e2,e3,h⟩
theorem e7 {α β γ:Type} {p1 p2 q:α→β→γ→Prop} {a b c} (e1:p1 a b c) (e2:p2 a b c) (h:q a b c):∃a b c,p1 a b c∧p2 a b c∧q a b c:=⟨a,b,c,e1,e2,h⟩
theorem jt {α β γ:Type} {p1 p2 p3 q:α→β→γ→Prop} {a b c} (e1:p1 a b c) (e2:p2 a b c) (e3:p3 a b c) (h:q a b c):∃a b c,p1 a b c∧p2 a b c∧p3 a b c∧q a b c:=⟨a,b,c,e1,e2,e3,h⟩
theorem gK {α β γ δ:Type} {p1 p2 q:α→β→γ→δ→Prop} {a b c d} (e1:p1 a b c d) (e2:p2 a b c d) (h:q a b c d):∃a b c d,p1 a b c d∧p2 a b c d∧q a b c d:=⟨a,b,c,d,e1,e2,h⟩
theorem gk {α β γ δ:Type} {p1 p2 p3 q:α→β→γ→δ→Prop} {a b c d} (e1:p1 a b c d) (e2:p2 a b c d) (e3:p3 a b c d) (h:q a b c d):∃a b c d,p1 a b c d∧p2 a b c d∧p3 a b c d∧q a b c d:=⟨a,b,c,d,e1,e2,e3,h⟩
theorem iq {α β γ δ:Type} {p1 p2 p3 p4 q:α→β→γ→δ→Prop} {a b c d} (e1:p1 a b c d) (e2:p2 a b c d) (e3:p3 a b c d) (e4:p4 a b c d) (h:q a b c d):∃a b c d,p1 a b c d∧p2 a b c d∧p3 a b c d∧p4 a b c d∧q a b c d:=⟨a,b,c,d,e1,e2,e3,e4,h⟩
theorem pA {α β γ δ:Type} {p1 p2 p3 p4 p5 p6 q:α→β→γ→δ→Prop} {a b c d} (e1:p1 a b c d) (e2:p2 a b c d) (e3:p3 a b c d) (e4:p4 a b c d) (e5:p5 a b c d) (e6:p6 a b c d) (h:q a b c d):∃a b c d,p1 a b c d∧p2 a b c d∧p3 a b c d∧p4 a b c d∧p5 a b c d∧p6 a b c d∧q a b c d:=⟨a,b,c,d,e1,e2,e3,e4,e5,e6,h⟩
theorem j0 {α β γ δ ε:Type} {p1 p2 q:α→β→γ→δ→ε→Prop} {a b c d e} (e1:p1 a b c d e) (e2:p2 a b c d e) (h:q a b c d e):∃a b c d e,p1 a b c d e∧p2 a b c d e∧q a b c d e:=⟨a,b,c,d,e,e1,e2,h⟩
theorem aR {α β:Type} {p1:α→Prop} {p2:α→β→Prop} {q:α→β→Prop} {a b} (e1:p1 a) (e2:p2 a b) (h:q a b):∃a,p1 a∧∃b,p2 a b∧q a b:=⟨a,e1,b,e2,h⟩
theorem aW {α β γ:Type} {p1:α→Prop} {p2:α→β→Prop} {p3:α→β→γ→Prop} {q:α→β→γ→Prop} {a b c} (e1:p1 a) (e2:p2 a b) (e3:p3 a b c) (h:q a b c):∃a,p1 a∧∃b,p2 a b∧∃c,p3 a b c∧q a b c:=⟨a,e1,b,e2,c,e3,h⟩
theorem ax {α β γ δ:Type} {p1:α→Prop} {p2:α→β→Prop} {p3:α→β→γ→Prop} {p4:α→β→γ→δ→Prop} {q:α→β→γ→δ→Prop} {a b c d} (e1:p1 a) (e2:p2 a b) (e3:p3 a b c) (e4:p4 a b c d) (h:q a b c d):∃a,p1 a∧∃b,p2 a b∧∃c,p3 a b c∧∃d,p4 a b c d∧q a b c d:=⟨a,e1,b,e2,c,e3,d,e4,h⟩
theorem bP {α β γ:Type} {p1:α→Prop} {p2 p3:α→β→γ→Prop} {q:α→β→γ→Prop} {a b c} (e1:p1 a) (e2:p2 a b c) (e3:p3 a b c) (h:q a b c):∃a,p1 a∧∃b c,p2 a b c∧p3 a b c∧q a b c:=⟨a,e1,b,c,e2,e3,h⟩
theorem aE {α β γ δ:Type} {p1:α→Prop} {p2 p3:α→β→γ→Prop} {p4:α→β→γ→δ→Prop} {q:α→β→γ→δ→Prop} {a b c d} (e1:p1 a) (e2:p2 a b c) (e3:p3 a b c) (e4:p4 a b c d) (h:q a b c d):∃a,p1 a∧∃b c,p2 a b c∧p3 a b c∧∃d,p4 a b c d∧q a b c d:=⟨a,e1,b,c,e2,e3,d,e4,h⟩
theorem br {α β γ δ:Type} {p1:α→Prop} {p2:α→β→Prop} {p3 p4:α→β→γ→δ→Prop} {q:α→β→γ→δ→Prop} {a b c d} (e1:p1 a) (e2:p2 a b) (e3:p3 a b c d) (e4:p4 a b c d) (h:q a b c d):∃a,p1 a∧∃b,p2 a b∧∃c d,p3 a b c d∧p4 a b c d∧q a b c d:=⟨a,e1,b,e2,c,d,e3,e4,h⟩
theorem eK {α β γ:Type} {p1:α→Prop} {p2 p3 p4:α→β→γ→Prop} {q:α→β→γ→Prop} {a b c} (e1:p1 a) (e2:p2 a b c) (e3:p3 a b c) (e4:p4 a b c) (h:q a b c):∃a,p1 a∧∃b c,p2 a b c∧p3 a b c∧p4 a b c∧q a b c:=⟨a,e1,b,c,e2,e3,e4,h⟩
theorem bT {α β γ δ ε:Type} {p1:α→Prop} {p2 p3 p4 p5:α→β→γ→δ→ε→Prop} {q:α→β→γ→δ→ε→Prop} {a b c d e} (e1:p1 a) (e2:p2 a b c d e) (e3:p3 a b c d e) (e4:p4 a b c d e) (e5:p5 a b c d e) (h:q a b c d e):∃a,p1 a∧∃b c d e,p2 a b c d e∧p3 a b c d e∧p4 a b c d e∧p5 a b c d e∧q a b c d e:=⟨a,e1,b,c,d,e,e2,e3,e4,e5,h⟩
theorem cP {α β:Type} {p1:α→Prop} {p2 p3:α→β→Prop} {q:α→β→Prop} {a b} (e1:p1 a) (e2:p2 a b) (e3:p3 a b) (h:q a b):∃a,p1 a∧∃b,p2 a b∧p3 a b∧q a b:=⟨a,e1,b,e2,e3,h⟩
theorem bx {α β γ δ ε:Type} {p1:α→Prop} {p2:α→β→Prop} {p3 p4:α→β→γ→δ→Prop} {p5:α→β→γ→δ→ε→Prop} {q:α→β→γ→δ→ε→Prop} {a b c d e} (e1:p1 a) (e2:p2 a b) (e3:p3 a b c d) (e4:p4 a b c d) (e5:p5 a b c d e) (h:q a b c d e):∃a,p1 a∧∃b,p2 a b∧∃c d,p3 a b c d∧p4 a b c d∧∃e,p5 a b c d e∧q a b c d e:=⟨a,e1,b,e2,c,d,e3,e4,e,e5,h⟩
theorem ck {α β γ:Type} {p1 p2:α→β→Prop} {p3:α→β→γ→Prop} {q:α→β→γ→Prop} {a b c} (e1:p1 a b) (e2:p2 a b) (e3:p3 a b c) (h:q a b c):∃a b,p1 a b∧p2 a b∧∃c,p3 a b c∧q a b c:=⟨a,b,e1,e2,c,e3,h⟩
theorem xl0 {n:Nat} {f:List V} {r:List V→Hp→VK→XK→Prop} (e:autoParam ((f).length=n) rd):∀vs H Q E,(vs=f∧r vs H Q E)→vs.length=n:=by rintro _ H Q E ⟨rfl,_⟩;exact e
theorem tZ {α:Type} {n:Nat} {f:α→List V} {r:List V→Hp→VK→XK→α→Prop} (e:autoParam (∀a,(f a).length=n) rd):∀vs H Q E,(∃a,vs=f a∧r vs H Q E a)→vs.length=n:=by rintro _ H Q E ⟨a,rfl,_⟩;exact e _
theorem lu {α β:Type} {n:Nat} {f:α→β→List V} {r:List V→Hp→VK→XK→α→β→Prop} (e:autoParam (∀a b,(f a b).length=n) rd):∀vs H Q E,(∃a b,vs=f a b∧r vs H Q E a b)→vs.length=n:=by rintro _ H Q E ⟨a,b,rfl,_⟩;exact e _ _
theorem lY {α β γ:Type} {n:Nat} {f:α→β→γ→List V} {r:List V→Hp→VK→XK→α→β→γ→Prop} (e:autoParam (∀a b c,(f a b c).length=n) rd):∀vs H Q E,(∃a b c,vs=f a b c∧r vs H Q E a b c)→vs.length=n:=by rintro _ H Q E ⟨a,b,c,rfl,_⟩;exact e _ _ _
theorem qU {α β γ δ:Type} {n:Nat} {f:α→β→γ→δ→List V} {r:List V→Hp→VK→XK→α→β→γ→δ→Prop} (e:autoParam (∀a b c d,(f a b c d).length=n) rd):∀vs H Q E,(∃a b c d,vs=f a b c d∧r vs H Q E a b c d)→vs.length=n:=by rintro _ H Q E ⟨a,b,c,d,rfl,_⟩;exact e _ _ _ _
theorem B5 {α β γ δ ε:Type} {n:Nat} {f:α→β→γ→δ→ε→List V} {r:List V→Hp→VK→XK→α→β→γ→δ→ε→Prop} (e:autoParam (∀a b c d i,(f a b c d i).length=n) rd):∀vs H Q E,(∃a b c d i,vs=f a b c d i∧r vs H Q E a b c d i)→vs.length=n:=by rintro _ H Q E ⟨a,b,c,d,i,rfl,_⟩;exact e _ _ _ _ _
theorem QS {α β γ δ ε ζ:Type} {n:Nat} {f:α→β→γ→δ→ε→ζ→List V} {r:List V→Hp→VK→XK→α→β→γ→δ→ε→ζ→Prop} (e:autoParam (∀a b c d i j,(f a b c d i j).length=n) rd):∀vs H Q E,(∃a b c d i j,vs=f a b c d i j∧r vs H Q E a b c d i j)→vs.length=n:=by rintro _ H Q E ⟨a,b,c,d,i,j,rfl,_⟩;exact e _ _ _ _ _ _
theorem Xe {α β γ δ ε ζ η:Type} {n:Nat} {f:α→β→γ→δ→ε→ζ→η→List V} {r:List V→Hp→VK→XK→α→β→γ→δ→ε→ζ→η→Prop} (e:autoParam (∀a b c d i j k,(f a b c d i j k).length=n) rd):∀vs H Q E,(∃a b c d i j k,vs=f a b c d i j k∧r vs H Q E a b c d i j k)→vs.length=n:=by rintro _ H Q E ⟨a,b,c,d,i,j,k,rfl,_⟩;exact e _ _ _ _ _ _ _
theorem Xf {α β γ δ ε ζ η θ:Type} {n:Nat} {f:α→β→γ→δ→ε→ζ→η→θ→List V} {r:List V→Hp→VK→XK→α→β→γ→δ→ε→ζ→η→θ→Prop} (e:autoParam (∀a b c d i j k l,(f a b c d i j k l).length=n) rd):∀vs H Q E,(∃a b c d i j k l,vs=f a b c d i j k l∧r vs H Q E a b c d i j k l)→vs.length=n:=by rintro _ H Q E ⟨a,b,c,d,i,j,k,l,rfl,_⟩;exact e _ _ _ _ _ _ _ _
theorem xl9 {α β γ δ ε ζ η θ ι:Type} {n:Nat} {f:α→β→γ→δ→ε→ζ→η→θ→ι→List V} {r:List V→Hp→VK→XK→α→β→γ→δ→ε→ζ→η→θ→ι→Prop} (e:autoParam (∀a b c d i j k l o,(f a b c d i j k l o).length=n) rd):∀vs H Q E,(∃a b c d i j k l o,vs=f a b c d i j k l o∧r vs H Q E a b c d i j k l o)→vs.length=n:=by rintro _ H Q E ⟨a,b,c,d,i,j,k,l,o,rfl,_⟩;exact e _ _ _ _ _ _ _ _ _
theorem VR {α β γ δ ε ζ η θ ι κ:Type} {n:Nat} {f:α→β→γ→δ→ε→ζ→η→θ→ι→κ→List V} {r:List V→Hp→VK→XK→α→β→γ→δ→ε→ζ→η→θ→ι→κ→Prop} (e:autoParam (∀a b c d i j k l o s,(f a b c d i j k l o s).length=n) rd):∀vs H Q E,(∃a b c d i j k l o s,vs=f a b c d i j k l o s∧r vs H Q E a b c d i j k l o s)→vs.length=n:=by rintro _ H Q E ⟨a,b,c,d,i,j,k,l,o,s,rfl,_⟩;exact e _ _ _ _ _ _ _ _ _ _
theorem el0 {f:List V} {r:Hp→VK→XK→Prop} {R:RR} {g:GG} (h:∀y v A u s H Q E,R y v A u s→r H Q E→g y v A u s H f Q E):∀y v A u s H vs Q E,R y v A u s→(vs=f∧r H Q E)→g y v A u s H vs Q E:=by rintro y v A u s H _ Q E z ⟨rfl,w⟩;exact h _ _ _ _ _ _ _ _ z w
theorem ua {α:Type} {f:α→List V} {r:Hp→VK→XK→α→Prop} {R:RR} {g:GG} (h:∀y v A u s H Q E,R y v A u s→∀a,r H Q E a→g y v A u s H (f a) Q E):∀y v A u s H vs Q E,R y v A u s→(∃a,vs=f a∧r H Q E a)→g y v A u s H vs Q E:=by rintro y v A u s H _ Q E z ⟨a,rfl,w⟩;exact h _ _ _ _ _ _ _ _ z _ w
theorem lx {α β:Type} {f:α→β→List V} {r:Hp→VK→XK→α→β→Prop} {R:RR} {g:GG} (h:∀y v A u s H Q E,R y v A u s→∀a b,r H Q E a b→g y v A u s H (f a b) Q E):∀y v A u s H vs Q E,R y v A u s→(∃a b,vs=f a b∧r H Q E a b)→g y v A u s H vs Q E:=by rintro y v A u s H _ Q E z ⟨a,b,rfl,w⟩;exact h _ _ _ _ _ _ _ _ z _ _ w
theorem lZ {α β γ:Type} {f:α→β→γ→List V} {r:Hp→VK→XK→α→β→γ→Prop} {R:RR} {g:GG} (h:∀y v A u s H Q E,R y v A u s→∀a b c,r H Q E a b c→g y v A u s H (f a b c) Q E):∀y v A u s H vs Q E,R y v A u s→(∃a b c,vs=f a b c∧r H Q E a b c)→g y v A u s H vs Q E:=by rintro y v A u s H _ Q E z ⟨a,b,c,rfl,w⟩;exact h _ _ _ _ _ _ _ _ z _ _ _ w
theorem qV {α β γ δ:Type} {f:α→β→γ→δ→List V} {r:Hp→VK→XK→α→β→γ→δ→Prop} {R:RR} {g:GG} (h:∀y v A u s H Q E,R y v A u s→∀a b c d,r H Q E a b c d→g y v A u s H (f a b c d) Q E):∀y v A u s H vs Q E,R y v A u s→(∃a b c d,vs=f a b c d∧r H Q E a b c d)→g y v A u s H vs Q E:=by rintro y v A u s H _ Q E z ⟨a,b,c,d,rfl,w⟩;exact h _ _ _ _ _ _ _ _ z _ _ _ _ w
theorem B6 {α β γ δ ε:Type} {f:α→β→γ→δ→ε→List V} {r:Hp→VK→XK→α→β→γ→δ→ε→Prop} {R:RR} {g:GG} (h:∀y v A u s H Q E,R y v A u s→∀a b c d i,r H Q E a b c d i→g y v A u s H (f a b c d i) Q E):∀y v A u s H vs Q E,R y v A u s→(∃a b c d i,vs=f a b c d i∧r H Q E a b c d i)→g y v A u s H vs Q E:=by rintro y v A u s H _ Q E z ⟨a,b,c,d,i,rfl,w⟩;exact h _ _ _ _ _ _ _ _ z _ _ _ _ _ w
theorem QT {α β γ δ ε ζ:Type} {f:α→β→γ→δ→ε→ζ→List V} {r:Hp→VK→XK→α→β→γ→δ→ε→ζ→Prop} {R:RR} {g:GG} (h:∀y v A u s H Q E,R y v A u s→∀a b c d i j,r H Q E a b c d i j→g y v A u s H (f a b c d i j) Q E):∀y v A u s H vs Q E,R y v A u s→(∃a b c d i j,vs=f a b c d i j∧r H Q E a b c d i j)→g y v A u s H vs Q E:=by rintro y v A u s H _ Q E z ⟨a,b,c,d,i,j,rfl,w⟩;exact h _ _ _ _ _ _ _ _ z _ _ _ _ _ _ w
theorem Xg {α β γ δ ε ζ η:Type} {f:α→β→γ→δ→ε→ζ→η→List V} {r:Hp→VK→XK→α→β→γ→δ→ε→ζ→η→Prop} {R:RR} {g:GG} (h:∀y v A u s H Q E,R y v A u s→∀a b c d i j k,r H Q E a b c d i j k→g y v A u s H (f a b c d i j k) Q E):∀y v A u s H vs Q E,R y v A u s→(∃a b c d i j k,vs=f a b c d i j k∧r H Q E a b c d i j k)→g y v A u s H vs Q E:=by rintro y v A u s H _ Q E z ⟨a,b,c,d,i,j,k,rfl,w⟩;exact h _ _ _ _ _ _ _ _ z _ _ _ _ _ _ _ w
theorem Xh {α β γ δ ε ζ η θ:Type} {f:α→β→γ→δ→ε→ζ→η→θ→List V} {r:Hp→VK→XK→α→β→γ→δ→ε→ζ→η→θ→Prop} {R:RR} {g:GG} (h:∀y v A u s H Q E,R y v A u s→∀a b c d i j k l,r H Q E a b c d i j k l→g y v A u s H (f a b c d i j k l) Q E):∀y v A u s H vs Q E,R y v A u s→(∃a b c d i j k l,vs=f a b c d i j k l∧r H Q E a b c d i j k l)→g y v A u s H vs Q E:=by rintro y v A u s H _ Q E z ⟨a,b,c,d,i,j,k,l,rfl,w⟩;exact h _ _ _ _ _ _ _ _ z _ _ _ _ _ _ _ _ w
theorem el9 {α β γ δ ε ζ η θ ι:Type} {f:α→β→γ→δ→ε→ζ→η→θ→ι→List V} {r:Hp→VK→XK→α→β→γ→δ→ε→ζ→η→θ→ι→Prop} {R:RR} {g:GG} (h:∀y v A u s H Q E,R y v A u s→∀a b c d i j k l o,r H Q E a b c d i j k l o→g y v A u s H (f a b c d i j k l o) Q E):∀y v A u s H vs Q E,R y v A u s→(∃a b c d i j k l o,vs=f a b c d i j k l o∧r H Q E a b c d i j k l o)→g y v A u s H vs Q E:=by rintro y v A u s H _ Q E z ⟨a,b,c,d,i,j,k,l,o,rfl,w⟩;exact h _ _ _ _ _ _ _ _ z _ _ _ _ _ _ _ _ _ w
theorem VS {α β γ δ ε ζ η θ ι κ:Type} {f:α→β→γ→δ→ε→ζ→η→θ→ι→κ→List V} {r:Hp→VK→XK→α→β→γ→δ→ε→ζ→η→θ→ι→κ→Prop} {R:RR} {g:GG} (h:∀y v A u s H Q E,R y v A u s→∀a b c d i j k l o p,r H Q E a b c d i j k l o p→g y v A u s H (f a b c d i j k l o p) Q E):∀y v A u s H vs Q E,R y v A u s→(∃a b c d i j k l o p,vs=f a b c d i j k l o p∧r H Q E a b c d i j k l o p)→g y v A u s H vs Q E:=by rintro y v A u s H _ Q E z ⟨a,b,c,d,i,j,k,l,o,p,rfl,w⟩;exact h _ _ _ _ _ _ _ _ z _ _ _ _ _ _ _ _ _ _ w
section
variable {P:Program} {w:World} {K:aP} {mg:Str→Option Value} {base:Heap}
theorem Ll {H H':Hp} {h h':Heap} {a:Addr} {o:HO} (x:g5 P w H h a o) (y:g5 P w H' h' a o):g5 P w H h' a o:=by
 induction o with
 | ins C dx fs=>exact⟨x.1,y.2⟩
 | oK ob u ih=>exact⟨y.1,ih x.2 y.2⟩
 | _=>exact y
theorem restrict {H H':Hp} {h h':Heap} (x:jv P w H h) (s:aI H H') (y:jv P w H' h'):jv P w H h':=fun a o e=>Ll (x a o e) (y a o (s a o e))
theorem Xi {CX:vP} {k:Nat} {f:Addr} {fd:FuncData} {ps:List Str} {sp QU:Sp} (F:jA P w K mg base CX k f fd ps sp) (h:∀vs H Q E,QU vs H Q E→sp vs H (fun v H'=>aI H H'∧Q v H) E):jA P w K mg base CX k f fd ps QU:=by
 refine⟨fun vs H Q E q=>F.len _ _ _ _ (h _ _ _ _ q),fun A outer s H args us vs Q E hr he hb hv hs=>?_⟩;refine codeAny_mono (F.run A outer s H args us vs _ E hr he hb hv (h _ _ _ _ hs)) fun r s' hq=>?_;cases r with
 | error e=>exact hq
 | ok fl =>
  cases fl with
  | ret u =>
   obtain⟨v,H',os,bare,un,du,rv,sm,q⟩:=hq;exact⟨v,H,os,bare,⟨un.keep,un.slot,fun _ _ _ n _=>n,un.there,fun _ _ e=>e,fun _ _ _ e=>e,fun b ps e=>⟨#[],by rw[e];simp⟩⟩,restrict he.du sm du,rv,q⟩
  | next=>exact hq
  | brk=>exact hq
  | cont=>exact hq
def Df (K:aP) (mg:Str→Option Value) (x:Str) (st:Stmt) (ps:List Str):Prop:=∃f fd,xR K x x st f fd∧mg x=some (.ref f)∧Binds K fd ps []
def cw (P:Program) (w:World) (K:aP) (mg:Str→Option Value) (base:Heap) (x:Str) (ps:List Str) (k:Nat) (sp:Sp):Prop :=
 ∃f fd,jA P w K mg base Bo k f fd ps sp∧mg x=some (.ref f)∧PySem.W.keepIn K (.ref f)=true∧Binds K fd ps []
theorem cQ {x:Str} {st:Stmt} {ps N:List Str} {k:Nat} {sp:Sp} (d:Df K mg x st ps) (S:aD N ps (ay st)) (len:∀vs H Q E,sp vs H Q E→vs.length=ps.length)
  (pW:∀(f:Addr) (bw:Value) (A:Around) (outer:List Env) (s:Shared) (H:Hp) (vs:List V) (Q:VK) (E:XK),fk k (A.deeper (envOfC x (ay st) s.heap.objs.size f bw))→sp vs H Q E →
   ∃t,qP (vQ Bo P w K mg base N x (ay st) f bw A outer s H E).vI (gO st) t∧t { nx:=fun _ H'=>Q .fV H',rt:=Q } (start N vs) H):cw P w K mg base x ps (k+1) sp:=by
 obtain⟨f,fd,F,hm,hb⟩:=d;exact⟨f,fd,F.ok S len fun bw A outer s H vs Q E hr h=>pW f bw A outer s H vs Q E hr h,hm,F.kp,hb⟩
theorem bc {x:Str} {st:Stmt} {ps N:List Str} {k:Nat} {sp:Sp} (d:Df K mg x st ps) (S:aD N ps (ay st)) (len:∀vs H Q E,sp vs H Q E→vs.length=ps.length)
  (pW:∀(f:Addr) (bw:Value) (A:Around) (outer:List Env) (s:Shared) (H:Hp) (vs:List V) (Q:VK) (E:XK),fk k (A.deeper (envOfC x (ay st) s.heap.objs.size f bw))→sp vs H Q E →
   ∃t,qP (vQ Bo P w K mg base N x (ay st) f bw A outer s H E).vI (gO st) t∧t { nx:=fun _ H'=>aI H H'∧Q .fV H,rt:=fun v H'=>aI H H'∧Q v H } (start N vs) H):cw P w K mg base x ps (k+1) sp:=by
 obtain⟨f,fd,F,hm,hb⟩:=d;refine⟨f,fd,Xi (sp:=fun vs H Q E=>∃Q',sp vs H Q' E∧Q=fun v H'=>aI H H'∧Q' v H) (F.ok S (fun vs H Q E ⟨Q',h,_⟩=>len vs H Q' E h) fun bw A outer s H vs Q E hr h=>?_) fun vs H Q E h=>⟨Q,h,rfl⟩,hm,F.kp,hb⟩;obtain⟨Q',h,rfl⟩:=h;exact pW f bw A outer s H vs Q' E hr h
end
section
variable {X:Cx} {x:Str} {ps:List Str} {j k:Nat} {sp:Sp} {p pos:Pos} {e:Expr} {es:List Expr} {t:TA}
abbrev ML (X:Cx) (x:Str) (ps:List Str) (k:Nat) (sp:Sp):Prop:=cw X.prog X.w X.K X.mg X.base x ps k sp
theorem Xj (h:ML X x ps j sp) (hr:fk k X.A) (hk:j≤k) (hg:Gl X x) (ha:PA X (e::es) t) (pV:autoParam ((x==("__debug__":Str))=false) ig)
  (he:autoParam (starEach (e::es) X.env=(false,eval e X.env)::starEach es X.env) cW) (gH:autoParam ((backTo pos (starEach es X.env)).any (·.1)=false) cW) :
  PE X (.Call (.Name x p) (e::es) [] pos) (rm sp [] E0 t):=by
 obtain⟨f,fd,F,hm,kp,hb⟩:=h;exact HN F (hr.mono hk) hg hm kp hb .nil qd ha pV he gH
theorem Ua (h:ML X x ps j sp) (hr:fk k X.A) (hk:j≤k) (hg:Gl X x) (pV:autoParam ((x==("__debug__":Str))=false) ig) :
  PE X (.Call (.Name x p) [] [] pos) (rm sp [] E0 ER):=by
 obtain⟨f,fd,F,hm,kp,hb⟩:=h;exact Nu F (hr.mono hk) hg hm kp hb .nil qd pV
def CI (mg:Str→Option Value) (x:Str) (i:Int):Prop:=∃t,mg x=some (.int i t)
def CT (K:aP) (mg:Str→Option Value) (x:Str) (xs:List V):Prop:=∃a,mg x=some (.ref a)∧∀H,j5 K H a xs
theorem aG {i:Int} (h:CI X.mg x i) (hg:Gl X x) (hd:autoParam ((x==("__debug__":Str))=false) ig):PE X (.Name x pos) (tC (.int i)):=by
 obtain⟨t,h⟩:=h;exact Pp hg h ⟨t,rfl⟩ hd
def aal (xs:List V) (tb:TE):TE:=fun σ H Q=>tb σ H fun y H1=>∃i v,y=.int i∧lD xs i=some v∧Q v H1
theorem ib {xs:List V} {b:Expr} {tb:TE} (h:CT X.K X.mg x xs) (hg:Gl X x) (hb:PE X b tb) (hs:Bb b:=by exact fun _ _=>rfl) (hd:autoParam ((x==("__debug__":Str))=false) ig) :
  PE X (.Subscript (.Name x p) b pos) (aal xs tb):=by
 obtain⟨a,h,hS⟩:=h;intro pins s σ H Q I hw;refine Subscript_ (kc I hg h ?_ hd);refine dA (hb pins s σ H _ I hw) fun u s2 ⟨y,H2,I2,ry,i,v,e,g,q⟩=>?_;exact vT _ _ pins s2 σ H2 (.ref a) y _ u Q I2 rfl ry ⟨a,xs,i,v,rfl,e,hS H2,g,q⟩ (hs _ _)
theorem Gz {xs:List V} (h:CT X.K X.mg x xs) (hg:Gl X x) (hd:autoParam ((x==("__debug__":Str))=false) ig):PE X (.Name x pos) (fun _ H Q=>∀a,(∀H,j5 X.K H a xs)→Q (.ref a) H):=by
 obtain⟨a,h,hS⟩:=h;exact fun _ _ _ H _ I q=>kc I hg h ⟨.ref a,H,I,rfl,q a hS⟩ hd
def Sm (n:Nat) (z:Int):Prop:=z.natAbs<2^n
theorem wH {n:Nat} {z:Int} (h:Sm n z):Builtin.Int.intBits z≤n:=by
 unfold Builtin.Int.intBits;split
 ·exact iC _
 ·next hz =>
  have h0:z.natAbs≠0:=by intro q;apply hz;simp;omega
  have:=(Nat.log2_lt h0).mpr h;omega
theorem cK:i9 X (binaryOp .Mult) (rI (fun i j=>Sm 60000 i∧Sm 60000 j) fun i j=>.int (i*j)):=Py fun i j _ _ _ _ _ hc q=>mul_int q (PySem.IntMulOk.of_le (wH hc.1) (wH hc.2) Ke)
theorem dU:i9 X (binaryOp .LShift) (rI (fun i j=>0≤j∧j≤60000∧Sm 60000 i) fun i j=>.int (i*2^j.toNat)):=Py fun i j _ _ _ _ _ hc q=>lshift_int hc.1 (by
 have:=wH hc.2.2;have h2:(2:Int)^27=134217728:=rfl;have:=hc.2.1;omega) q
theorem ir:i9 X (binaryOp .FloorDiv) (rI (fun _ j=>0<j∧Sm 8999 j) fun i j=>.int (i/j)):=Py fun i j _ _ _ _ _ hc q=>by
 refine floordiv_int (jz hc.1) (by rw[EK _ (bo hc.1)];exact q) (.inl (PyProof.noPylong_of_log2 ?_));have h0:j.natAbs≠0:=by have:=hc.1;omega
 have:=(Nat.log2_lt h0).mpr hc.2;omega
theorem QW (i:Int):((Builtin.Int.intBits i:Nat):Int)=BF.bl i:=by
 unfold Builtin.Int.intBits BF.bl;by_cases h:i=0
 ·subst h;rfl
 ·rw[ag h,ag (by simpa using h)];omega
theorem Xk:YX X "int.bit_length" (fun x xs H Q=>∃i,x=.int i∧xs=[]∧Q (.int (BF.bl i)) H):=by
 intro pins s σ H x xs v us Q I rx rs h;obtain⟨i,rfl,rfl,q⟩:=h;obtain⟨t,rfl⟩:=rx;cases rs;exact call_int_bit_length ⟨.int (BF.bl i),H,I.tok _,⟨_,by rw[←QW]⟩,q⟩
def tBl (ta:TE):TE:=fun σ H Q=>ta σ H fun x H1=>∃i,x=.int i∧Q (.int (BF.bl i)) H1
theorem AE {o:Expr} {to:TE} {apos qF:Pos} (ho:PE X o to) (uK:autoParam (attributeBase o "bit_length" X.env (eval o X.env)=eval o X.env) cW) (Kz:autoParam ((apos.endLine==qF.line)=true) cW) :
  PE X (.Call (.Attribute o "bit_length" apos) [] [] qF) (tBl to):=by
 intro pins s σ H Q I h;refine wpAny_Call_method0_late uK Kz (dA (ho pins s σ H _ I h) fun v s1 ⟨x,H1,I1,r1,i,e,q1⟩=>?_);subst e;obtain⟨h1,h2⟩:=Ms (T:="int") I1 r1 rfl;exact⟨"int","int.bit_length",PySem.F.plainAttrs_int,PySem.F.slot_int_bit_length,PySem.F.type_int_bit_length,h1,h2,Calls.callWith_builtin rfl (PySem.evalArgs_none (Xk pins s1 σ H1 _ [] v [] Q I1 r1 .nil ⟨i,rfl,rfl,q1⟩))⟩
theorem b6 {n:Nat} {z:Int} (h:z.natAbs<2^64) (hn:64≤n):Sm n z:=cg h (fA Ke hn)
theorem vc {j:Int} (h:0<j) (h2:j<18446744073709551616):0<j∧Sm 8999 j:=⟨h,b6 Kk Ke⟩
def VT (t:TT):TT:=fun σ H Q=>∃c,t σ H (fun b H1=>b=c∧H1=H)∧Q c H
def Xl (t:TE):TE:=fun σ H Q=>∃v,t σ H (fun x H1=>x=v∧H1=H)∧Q v H
def Xm (t:TS):TS:=fun D σ H=>∃σ',t { nx:=fun σ1 H1=>σ1=σ'∧H1=H,rt:=fun _ _=>False } σ H∧D.nx σ' H
theorem cy {e:Expr} {t:TT} (h:PT X e t):PT X e (VT t):=by
 intro pins s σ H Q I hw;obtain⟨c,h1,q⟩:=hw;refine dA (h pins s σ H _ I h1) fun b s1 ⟨H1,I1,e1,e2⟩=>?_;subst e1 e2;exact⟨_,I1,q⟩
theorem cZ {e:Expr} {t:TE} (h:PE X e t):PE X e (Xl t):=by
 intro pins s σ H Q I hw;obtain⟨v,h1,q⟩:=hw;refine dA (h pins s σ H _ I h1) fun b s1 ⟨x,H1,I1,rx,e1,e2⟩=>?_;subst e1 e2;exact⟨_,_,I1,rx,q⟩
theorem AH {st:Stmt} {t:TS} (h:PS X st t):PS X st (Xm t):=by
 intro pins s σ H D I hw;obtain⟨σ',h1,q⟩:=hw;refine dA (h pins s σ H _ I h1) fun fl s1 hs=>?_;cases fl with
 | next =>
  obtain⟨σ1,H1,I1,e1,e2⟩:=hs;subst e1 e2;exact⟨_,_,I1,q⟩
 | brk=>obtain⟨_,_,_,q⟩:=hs;exact False.elim q
 | cont=>obtain⟨_,_,_,q⟩:=hs;exact False.elim q
 | ret u=>obtain⟨_,_,_,_,_,q⟩:=hs;exact False.elim q
theorem B7 {f:Value→Value→Sem Value} {r r':R2} (h:i9 X f r) (hi:∀x y H Q,r' x y H Q→r x y H Q):i9 X f r':=fun pins s σ H x y v u Q I rx ry q=>h pins s σ H x y v u Q I rx ry (hi _ _ _ _ q)
theorem bp:i9 X (compareOp .Eq) (AZ fun i j=>.bl (decide (i=j))):=B7 PC fun x y H Q ⟨i,j,ex,ey,q⟩=>by
 subst ex ey;refine⟨rfl,?_⟩;have:decide (V.int i=V.int j)=decide (i=j):=by simp
 rw[this];exact q
theorem GA:i9 X (compareOp .NotEq) (AZ fun i j=>.bl (!decide (i=j))):=B7 PD fun x y H Q ⟨i,j,ex,ey,q⟩=>by
 subst ex ey;refine⟨rfl,?_⟩;have:decide (V.int i=V.int j)=decide (i=j):=by simp
 rw[this];exact q
def rB0 (g:Bool→Bool→V):R2:=fun x y H Q=>∃i j,x=.bl i∧y=.bl j∧Q (g i j) H
theorem GC:i9 X (compareOp .Eq) (rB0 fun i j=>.bl (i==j)):=B7 PC fun x y H Q ⟨i,j,ex,ey,q⟩=>by
 subst ex ey;refine⟨rfl,?_⟩;have:decide (V.bl i=V.bl j)=(i==j):=by cases i<;>cases j<;>rfl
 rw[this];exact q
theorem AJ:i9 X (compareOp .NotEq) (rB0 fun i j=>.bl (i != j)):=B7 PD fun x y H Q ⟨i,j,ex,ey,q⟩=>by
 subst ex ey;refine⟨rfl,?_⟩;have:(!decide (V.bl i=V.bl j))=(i != j):=by cases i<;>cases j<;>rfl
 rw[this];exact q
theorem ai {H:Hp} {l:Addr} {o:HO} (h:H l=none):aI H (upd H l o):=fun b u e=>by rw[b7 (dc e h)];exact e
theorem bD {Q:VK} {H:Hp} {a b:Int} (q:Q (.int b) H) (e:a=b):Q (.int a) H:=by rw[e];exact q
theorem wI {Q:VK} {H:Hp} {a b:Bool} (q:Q (.bl b) H) (e:a=b):Q (.bl a) H:=by rw[e];exact q
theorem boot_abs:bootBuiltins "abs"=some (.builtin "abs"):=by decide +kernel
theorem boot_min:bootBuiltins "min"=some (.builtin "min"):=by decide +kernel
theorem boot_max:bootBuiltins "max"=some (.builtin "max"):=by decide +kernel
theorem boot_sum:bootBuiltins "sum"=some (.builtin "sum"):=by decide +kernel
theorem boot_all:bootBuiltins "all"=some (.builtin "all"):=by decide +kernel
theorem boot_ord:bootBuiltins "ord"=some (.builtin "ord"):=by decide +kernel
def AO (u:BF.Ex):List (Str×V):=[("nan",.bl u.nan),("infinite",.bl u.inf),("negative",.bl u.neg),("size",.int u.size),("power",.int u.power)]
def eR (C:Addr) (H:Hp) (a:Addr) (u:BF.Ex):Prop:=∃dx,H a=some (.ins C dx (AO u))
theorem eR.same {C:Addr} {H H':Hp} {a:Addr} {u:BF.Ex} (h:eR C H a u) (s:aI H H'):eR C H' a u:=let ⟨dx,e⟩:=h;⟨dx,s a _ e⟩
inductive Fl:Str→(BF.Ex→V)→Prop
 | nan:Fl "nan" fun u=>.bl u.nan
 | inf:Fl "infinite" fun u=>.bl u.inf
 | neg:Fl "negative" fun u=>.bl u.neg
 | size:Fl "size" fun u=>.int u.size
 | power:Fl "power" fun u=>.int u.power
theorem Fl.look {f:Str} {g:BF.Ex→V} (h:Fl f g) (u:BF.Ex):(AO u).lookup f=some (g u):=by
 cases h<;>rfl
structure QX (K:aP) (C:Addr):Prop where
 cl:zx K C
 nan:gb K C "nan"
 inf:gb K C "infinite"
 neg:gb K C "negative"
 size:gb K C "size"
 power:gb K C "power"
theorem QX.no {K:aP} {C:Addr} (c:QX K C) {f:Str} {g:BF.Ex→V} (h:Fl f g):gb K C f:=by
 cases h
 ·exact c.nan
 ·exact c.inf
 ·exact c.neg
 ·exact c.size
 ·exact c.power
def tEx (C:Addr) (ta:TE) (g:BF.Ex→V):TE:=fun σ H Q=>ta σ H fun x H1=>∃a,x=.ref a∧∃u,eR C H1 a u∧Q (g u) H1
theorem a8 {C:Addr} {e:Expr} {ta:TE} {f:Str} {g:BF.Ex→V} (c:QX X.K C) (hf:Fl f g) (he:PE X e ta) (hb:autoParam (attributeBase e f X.env (eval e X.env)=eval e X.env) cW):PE X (.Attribute e f pos) (tEx C ta g):=by
 intro pins s σ H Q I h;refine HK hb (dA (he pins s σ H _ I h) fun u s1 ⟨x,H1,I1,rx,a,ex,v,⟨dx,ea⟩,q⟩=>?_);subst ex;obtain rfl:u=Value.ref a:=rx;exact yK I1 ea c.cl (c.no hf) (hf.look v) fun u' s2 I2 ru=>⟨g v,H1,I2,ru,q⟩
end
end G
section
namespace PySem
namespace F
theorem B8:Manifest.owners.lookup (String.ofList ['d','e','s','r','e','v','e','r'].reverse)=some Manifest.sig_reversed:=by kernel_rfl
theorem jd:Slot "reversed" "__next__" "reversed.__next__" :=
 .of (owner:="reversed") (n:="__next__") (by rw[typeLookup_type,builtinLookup_eq_fast];kernel_rfl) (by decide +kernel) (by decide +kernel) (by decide +kernel)
  (by first | exact .inl (by decide +kernel) | exact .inr (by decide +kernel)) (by rw[isSubtype_type];kernel_rfl)
theorem qI:entryFor table "reversed.__next__"=some Builtin.«reversed.__next__»:=entryFor_of_tree (by kernel_rfl)
theorem pB (a:Value):argsOk "reversed.__next__" ⟨[a],[]⟩:=by
 unfold argsOk;rw[signature?_of (id:="reversed.__next__") (n:=['_','_','t','x','e','n','_','_']) (o:=['d','e','s','r','e','v','e','r']) (by kernel_rfl) B8];kernel_rfl
theorem rS:Slot "reversed" "__iter__" "reversed.__iter__" :=
 .of (owner:="reversed") (n:="__iter__") (by rw[typeLookup_type,builtinLookup_eq_fast];kernel_rfl) (by decide +kernel) (by decide +kernel) (by decide +kernel)
  (by first | exact .inl (by decide +kernel) | exact .inr (by decide +kernel)) (by rw[isSubtype_type];kernel_rfl)
theorem yc (a:Value):argsOk "reversed.__iter__" ⟨[a],[]⟩:=by
 unfold argsOk;rw[signature?_of (id:="reversed.__iter__") (n:=['_','_','r','e','t','i','_','_']) (o:=['d','e','s','r','e','v','e','r']) (by kernel_rfl) B8];kernel_rfl
theorem zH:entryFor table "reversed.__iter__"=some Builtin.«dict_keyiterator.__iter__» :=
 entryFor_alias (id':="dict_keyiterator.__iter__") (by kernel_rfl) (by first | rfl | decide +kernel | (unfold String.splitOn;simp +decide [String.splitOnAux])) (by decide +kernel) (by kernel_rfl)
theorem B9:Slot "reversed" "__init__" "object.__init__" :=
 .of (owner:="object") (n:="__init__") (by rw[typeLookup_type,builtinLookup_eq_fast];kernel_rfl) (by decide +kernel) (by decide +kernel) (by decide +kernel)
  (by first | exact .inl (by decide +kernel) | exact .inr (by decide +kernel)) (by rw[isSubtype_type];kernel_rfl)
theorem rT:TypeCalled "reversed" "reversed.__new__" "object.__init__" :=
 ⟨by decide +kernel,by decide +kernel,⟨_,_,mro_reversed⟩,madeBy_type mro_reversed lookup_reversed_new (by decide +kernel),by decide +kernel,by rw[isSubtype_type];kernel_rfl,B9⟩
theorem yd:typeLookup (.type "tuple") "__reversed__"=pure none:=by rw[typeLookup_type,builtinLookup_eq_fast];kernel_rfl
theorem GD:isSubtype (.type "tuple") (.type "dict")=pure false:=by rw[isSubtype_type];kernel_rfl
end F
open PyProof.Rows
section
variable {prog:Program} {w:World} {A:Around} {E:Value→Shared→Prop} {s:Shared}
def AK (l:Addr) (i:Int):Obj:={ cls:=.type "reversed",data:=.fields #[.ref l,rawInt i] }
def Heap.oy (h:Heap) (a l:Addr) (i:Int):Prop:=∃o,h.get? a=some o∧o.cls=.type "reversed"∧o.data=.fields #[.ref l,rawInt i]
theorem Heap.oy.typeIs {a l:Addr} {i:Int} (x:s.heap.oy a l i):s.TypeIs (.ref a) "reversed":=let ⟨o,ho,hc,_⟩:=x;⟨o,ho,hc⟩
theorem Heap.oy.at {h h':Heap} {a l:Addr} {i:Int} (x:h.oy a l i) (e:∀o,h.get? a=some o→h'.get? a=some o):h'.oy a l i:=let ⟨o,ho,r⟩:=x;⟨o,e _ ho,r⟩
theorem DZ {l:Addr} {items:Array Value} {Q₁:Value→Shared→Prop} (hl:IsTup s.heap l items) (Be:(items.size:Int)<2^63)
  (h:Q₁ (.ref s.heap.objs.size) { s with heap:=s.heap.push (AK l ((items.size:Int)-1)),toks:=s.toks+1+1 }) :
  codeAny (model prog w) A (.call (.builtin "reversed.__new__") ⟨[.type "reversed",.ref l],[]⟩) (wants Q₁ E) s:=by
 refine codeAny_of_tree ?_;show wpAny _ A.in1 (do checkBuiltinCall "reversed.__new__" ⟨[.type "reversed",.ref l],[]⟩;again (.builtin "reversed.__new__" ⟨[.type "reversed",.ref l],[]⟩)) _ _ s;refine wpAny_bind (wpAny_of_eq (F.newCall_reversed_1 _) (wpAny_pure ⟨plainId_quiet F.plain_reversed_new _,codeAny_builtin F.entry_reversed_new ?_⟩));rw[Around.under_plainId F.plain_reversed_new _];unfold Builtin.«reversed.__new__»;refine wpAny_bind (wpAny_of_eq (newClass_reversed _) ?_)
 try dsimp only
 refine wpAny_bind (wpAny_of_eq (a:=()) (by first | rfl | kernel_rfl) ?_);refine wpAny_bind (wpAny_of_eq (a:=()) (by first | rfl | kernel_rfl) ?_)
 try dsimp only
 refine wpAny_bind (wpAny_specialOf hl.typeIs F.yd ?_)
 try dsimp only
 refine wpAny_bind ?_;show wpAny _ _ (isInstance (.ref l) (.type "dict") >>= _) _ _ s;refine wpAny_bind (wpAny_isInstance hl.typeIs F.GD ?_);rw[if_neg Ke];show wpAny _ _ (specialOf (.ref l) "__getitem__" >>= _) _ _ s;refine wpAny_bind (wpAny_specialOf hl.typeIs slot_tuple_getitem.lookup ?_);dsimp only;rw[if_pos Ke];refine wpAny_pure ?_;rw[if_neg Ke];refine wpAny_bind (len_tuple hl Be ?_);refine wpAny_bind ?_;refine wpAny_of_eq (a:=some (items.size:Int)) rfl ?_;dsimp only;show wpAny _ _ (newObj (.type "reversed") (.fields #[.ref l,rawInt ((items.size:Int)-1)]) >>= _) _ _ _;exact wpAny_bind (wpAny_newObj_type (wpAny_pure h))
theorem Oq {l:Addr} {items:Array Value} {Q:Value→Shared→Prop} (hl:IsTup s.heap l items) (Be:(items.size:Int)<2^63)
  (h:Q (.ref s.heap.objs.size) { s with heap:=s.heap.push (AK l ((items.size:Int)-1)),toks:=s.toks+1+1 }):wpAny (model prog w) A (call (.type "reversed") [.ref l]) Q E s:=by
 refine callType_codes (Q₁:=fun obj s₁=>obj=.ref s.heap.objs.size∧s₁={ s with heap:=s.heap.push (AK l ((items.size:Int)-1)),toks:=s.toks+1+1 }) F.rT (F.typeCall_reversed_1 _) F.entry_object_init (DZ hl Be ⟨rfl,rfl⟩) ?_;rintro obj s₁ ⟨rfl,rfl⟩;have hT:Shared.TypeIs { s with heap:=s.heap.push (AK l ((items.size:Int)-1)),toks:=s.toks+1+1 } (.ref s.heap.objs.size) "reversed":=⟨_,Heap.get?_push_size _ rfl,rfl⟩;refine⟨hT,F.args_object_init_2 _ _,?_⟩;exact object_init_meets F.rT.init.lookup F.rT.made Ke prog w A.in1 _ _ ⟨hT,rfl,h⟩
theorem Ca {it l:Addr} {i:Nat} {items:Array Value} {x:Value} {Q:Option Value→Shared→Prop} (lR:s.heap.oy it l (i:Int)) (hl:IsTup s.heap l items) (hi:(i:Int)<2^63) (hx:items[i]?=some x)
  (hQ:∀h' t,h'.oy it l ((i:Int)-1)→Heap.SameBut it s.heap h'→Q (some x) { s with heap:=h',toks:=t }):wpAny (model prog w) A (pyNext (.ref it)) Q E s:=by
 obtain⟨o,ho,hc,hd⟩:=id lR;unfold pyNext;refine wpAny_bind (wpAny_attempt (wpAny_callSpecial?_slot (name:=Str.ofString "__next__") lR.typeIs F.jd
  (wpAny_call_entry F.jd lR.typeIs F.qI ?_ (F.pB _))))
 unfold Builtin.«reversed.__next__»;refine wpAny_bind (wpAny_of_eq (a:=(Value.ref it,[])) rfl ?_)
 try dsimp only
 refine wpAny_bind (wpAny_field ho hd (x:=.ref l) rfl ?_);refine wpAny_bind (wpAny_field ho hd (x:=rawInt (i:Int)) rfl ?_);show wpAny _ _ (if (i:Int)<0 then _ else _) _ _ s;rw[if_neg Kk];show wpAny _ _ (specialOf (.ref l) "__getitem__" >>= _) _ _ s;refine wpAny_bind (wpAny_specialOf hl.typeIs slot_tuple_getitem.lookup ?_);rw[if_neg Ke];refine wpAny_bind (wpAny_mkInt ?_);refine wpAny_bind (wpAny_attempt (getItem_tuple (j:=i) hl Kk hi (seqIndex_of Kk (by have:=(Array.getElem?_eq_some_iff.mp hx).1;omega)) hx ?_));dsimp only;refine wpAny_bind (wpAny_field ho hd (x:=rawInt (i:Int)) rfl ?_);dsimp only[rawInt];refine wpAny_bind (wpAny_setField ho hd (by simp) ?_);refine wpAny_pure ⟨x,rfl,wpAny_pure (hQ _ _ ?_ (Heap.SameBut.update ..))⟩;exact⟨_,Heap.get?_update_self _ ho (Obj.isFreed_of_fields (Obj.data_mapFields hd _)),(Obj.cls_mapFields ..).trans hc,by
  rw[Obj.data_mapFields hd];simp[rawInt]⟩
theorem D0 {it l:Addr} {Q:Option Value→Shared→Prop} (hh:A.handled=none) (lR:s.heap.oy it l (-1))
  (hQ:∀h',Heap.ExtBut it s.heap h'→Q none { s with heap:=h' }):wpAny (model prog w) A (pyNext (.ref it)) Q E s:=by
 obtain⟨o,ho,hc,hd⟩:=id lR;unfold pyNext;refine wpAny_bind (wpAny_attempt (wpAny_callSpecial?_slot (name:=Str.ofString "__next__") lR.typeIs F.jd
  (wpAny_call_entry F.jd lR.typeIs F.qI ?_ (F.pB _))))
 unfold Builtin.«reversed.__next__»;refine wpAny_bind (wpAny_of_eq (a:=(Value.ref it,[])) rfl ?_)
 try dsimp only
 refine wpAny_bind (wpAny_field ho hd (x:=.ref l) rfl ?_);refine wpAny_bind (wpAny_field ho hd (x:=rawInt (-1)) rfl ?_);show wpAny _ _ (if (-1:Int)<0 then _ else _) _ _ s;rw[ao Ke];refine wpAny_bind (wpAny_rule ?_);refine wpAny_bind ?_;show wpAny _ _ (setField (.ref it) 1 (rawInt (-1)) >>= fun _=>setField (.ref it) 0 .none) _ _ s;refine wpAny_bind (wpAny_setField ho hd (by simp) ?_);have ho1:=Heap.get?_update_self (Obj.mapFields (·.setIfInBounds 1 (rawInt (-1)))) ho (Obj.isFreed_of_fields (Obj.data_mapFields hd _));have hd1:=Obj.data_mapFields hd (·.setIfInBounds 1 (rawInt (-1)));refine wpAny_setField ho1 hd1 (by simp) ?_;refine wpAny_bind ?_;show wpAny _ _ (newExc (.type "StopIteration") [] >>= _) _ _ _;refine wpAny_bind ?_;simp only[newExc,newTuple];refine wpAny_bind (wpAny_newObj_type ?_ (by size_fits));refine wpAny_bind (m:=firstArgMember _ _) (wpAny_of_eq (a:=Value.none) (by first | rfl | (simp only[firstArgMember];rfl)) ?_);refine wpAny_newObj_type ?_ (by size_fits);simp only[raiseNew];refine wpAny_bind (wpAny_handled ?_)
 first | rw[show A.in1.handled=none from hh] | rw[hh]
 refine wpAny_bind (wpAny_pure (wpAny_throw ?_));refine wpAny_bind (wpAny_isInstance (T:="StopIteration") (b:=true) ⟨_,Heap.get?_push_size _ rfl,rfl⟩ isSubtype_stop ?_);refine wpAny_pure (hQ _ ?_);have x1:=(Heap.SameBut.update s.heap it (Obj.mapFields (·.setIfInBounds 1 (rawInt (-1))))).extBut;have x2:=(Heap.SameBut.update (s.heap.update it (Obj.mapFields (·.setIfInBounds 1 (rawInt (-1))))) it (Obj.mapFields (·.setIfInBounds 0 .none))).extBut;exact((Heap.ExtBut.push (fun c o hc e=>x2 c o hc (x1 c o hc e)) _).push _)
theorem Fs {it l:Addr} {i:Int} {Q:Value→Shared→Prop} (lR:s.heap.oy it l i) (h:Q (.ref it) s):wpAny (model prog w) A (pyIter (.ref it)) Q E s:=by
 refine wpAny_pyIter_slot lR.typeIs F.rS (wpAny_call_entry F.rS lR.typeIs F.zH ?_ (F.yc _));show wpAny _ _ (ret (.ref it)) _ _ s;exact wpAny_pure ⟨_,rfl,"reversed",_,lR.typeIs,F.jd.lookup,h⟩
end
end PySem
namespace L2
open PySem PySem.Spec PyProof.Rows
def Itw (K:aP) (a:Addr) (n:Nat):It :=
 ⟨fun i H=>i<n∧∃(xs:List V) (x:V),j5 K H a xs∧xs[n-1-i]?=some x,fun i H x H'=>H'=H∧∀xs,j5 K H a xs→xs[n-1-i]?=some x,fun i _=>n≤i⟩
theorem Ot {P:Program} {w:World} {K:aP} {tg:Expr} (a it:Addr) (n:Nat) (hn:(n:Int)<2^63):Turn P w K tg (Itw K a n) [it] it (fun i h=>i≤n∧h.oy it a ((n:Int)-1-(i:Nat))) where
 mem:=by simp
 obj:=fun i h st b hb=>by
  have e:b=it:=by simpa using hb
  subst e;obtain⟨_,o,e,c,d⟩:=st;exact⟨o,e,fun v z=>by rw[d] at z;cases z⟩
 keep:=fun i h h' st k=>⟨st.1,st.2.at fun o e=>k it (by simp) o e⟩
 item:=by
  intro X hP hw hK hc i pins s σ H E I hf st hg;subst hP hw hK;obtain⟨Ub,xs,x,hq,hx⟩:=hg;obtain⟨bq,rv,p,hz⟩:=I.tuple hq;obtain⟨u,hu,ru⟩:=rv.get hx;obtain⟨f0,f1,f2,f3,f4,f5⟩:=hf it (by simp);obtain⟨_,lR⟩:=st;have e1:(n:Int)-1-((i:Nat):Int)=((n-1-i:Nat):Int):=by omega
  rw[e1] at lR;refine Ca lR p Kk (x:=u) (by simpa using hu) fun h' t qR sb=>?_;have e2:((n-1-i:Nat):Int)-1=(n:Int)-1-((i+1:Nat):Int):=by omega
  rw[e2] at qR;have I1:Inv X pins σ H { s with heap:=h',toks:=t }:=I.turned (t':=t) (fun b o hb e=>(sb.2 b hb).trans e) f0 f1 f3 f4 f5;obtain⟨o,e,c,d⟩:=id qR;exact⟨u,rfl,AX (s:={ s with heap:=h',toks:=t }) e c d Ke ⟨x,H,I1,ru,⟨rfl,fun ys hy=>by rw[I.Kl hy hq];exact hx⟩,⟨Ub,qR⟩,fun b hb=>(hf b hb).1⟩⟩
 done:=by
  intro X hP hw hK hc i pins s σ H E I hf st hg;subst hP hw hK;obtain⟨f0,f1,f2,f3,f4,f5⟩:=hf it (by simp);obtain⟨Ub,lR⟩:=st;have T5:n≤i:=hg;have e1:(n:Int)-1-((i:Nat):Int)=-1:=by omega
  rw[e1] at lR;exact D0 (I.ok.hd hc) lR fun h' eb=>⟨rfl,I.turned (t':=s.toks) (fun b o hb e=>eb b o hb e) f0 f1 f3 f4 f5⟩
 self:=fun A i s Q E st h=>Fs st.2 h
def Xn (K:aP) (ta:TA):TI:=fun σ H R=>ta σ H fun vs H1=>∃(a:Addr) (xs:List V),vs=[.ref a]∧j5 K H1 a xs∧R (Itw K a xs.length) H1
section
variable {X:Cx} {tg:Expr}
theorem QY {e:Expr} {ta:TA} {p pos:Pos} (hg:Gl X "reversed") (hm:X.mg "reversed"=none) (ha:PA X [e] ta) (hs:autoParam (starEach [e] X.env=[(false,eval e X.env)]) cW):PI X tg (.Call (.Name "reversed" p) [e] [] pos) (Xn X.K ta):=by
 intro pins s σ H R I h;refine Call_ (sI I hg hm zA (tU (dA (ha pos pins s σ H _ I h) fun us s1 ⟨vs,H1,I1,r1,q1⟩=>?_) hs rfl));obtain⟨a,xs,e,hq,q⟩:=q1;subst e;cases r1 with
 | cons r rr =>
  cases rr;cases r;obtain⟨bq,rv,p',hz⟩:=I1.tuple hq;have hl:=rv.length;have hn:=sP;have e1:((bq.toArray.size:Nat):Int)-1=(xs.length:Int)-1-((0:Nat):Int):=by simp only[cz];omega
  have Be:((bq.toArray.size:Nat):Int)<2^63:=by simp only[cz];omega
  refine Oq p' Be (Fs (l:=a) (i:=((bq.toArray.size:Nat):Int)-1) ⟨_,Heap.get?_push_size _ rfl,rfl,rfl⟩ ?_);refine Ap (tk:=s1.toks+1+1) I1 _ (Ot a _ xs.length Kk) ⟨iC _,?_⟩ q;rw[←e1];exact⟨_,Heap.get?_push_size _ rfl,rfl,rfl⟩
end
end L2
end
section
namespace L2
open PySem PySem.Spec PyProof.Rows
def aao (z:Str) (ta tb:TE):TE:=fun σ H Q=>ta σ H fun x H1=>∃i,x=.int i∧i.natAbs.log2<1920∧(Str.ofString (toString i)).length≤sizeLine∧(Str.ofString (toString i)++z).length≤sizeLine∧tb σ H1 fun y H2=>∃j,y=.int j∧j.natAbs.log2<1920 ∧
 ((Str.ofString (toString i)++z++Str.ofString (toString j)).length≤sizeLine)∧Q (.str (Str.ofString (toString i)++z++Str.ofString (toString j))) H2
section
variable {X:Cx}
theorem Uc {e1 ec e2:Expr} {z:Str} {ta tb:TE} {p1 p3 pos:Pos} (ha:PE X e1 ta) (hc:PE X ec (tC (.str z))) (hb:PE X e2 tb) :
  PE X (.JoinedStr [.FormattedValue e1 (-1) none p1,ec,.FormattedValue e2 (-1) none p3] pos) (aao z ta tb):=by
 intro pins s σ H Q I h;refine JoinedStr_many (joinParts_cons (FormattedValue_plain (dA (ha pins s σ H _ I h) fun u s1 ⟨x,H1,I1,r1,q1⟩=>?_)));obtain⟨i,rfl,hi,l1,l2,q1⟩:=q1;obtain⟨t,rfl⟩:=r1;refine formatField_int_small hi ?_;have e0:Str.empty++Str.ofString (toString i)=Str.ofString (toString i):=by
  show Str.mk (#[]++(Str.ofString (toString i)).cps)=_;rw[Array.empty_append]
 dsimp only;rw[e0];refine⟨l1,joinParts_cons (dA (hc pins _ σ H1 _ (I1.tok _) (show tC (.str z) σ H1 (fun y H2=>y=.str z∧H2=H1) from ⟨rfl,rfl⟩)) fun u s2 ⟨y,H2,I2,r2,ey,eh⟩=>?_)⟩;subst ey eh;obtain⟨t2,rfl⟩:=r2;refine⟨l2,joinParts_cons (FormattedValue_plain (dA (hb pins s2 σ _ _ I2 q1) fun u s3 ⟨x3,H3,I3,r3,q3⟩=>?_))⟩;obtain⟨j,rfl,hj,l3,q3⟩:=q3;obtain⟨t3,rfl⟩:=r3;refine formatField_int_small hj ?_;exact⟨l3,joinParts_nil ⟨.str _,H3,I3.tok _,⟨_,rfl⟩,q3⟩ l3⟩
end
end L2
end
namespace G
open PySem PySem.Spec PyProof.Rows L2
abbrev bmE:List Value:=[.type "Exception",.type "BaseException",.type "object"]
structure Ud (K:aP) (mg:Str→Option Value) (C:Addr):Prop where
 bound:mg "NoNumber"=some (.ref C)
 exc:PySem.W.excIn K C bmE "Exception.__new__"=true
theorem MM {K:aP} {h:Heap} {mg:Str→Option Value} {C:Addr} (vG:K.In h) (c:Ud K mg C):OwnCls "NoNumber" C bmE "Exception.__new__" mg h:=by
 refine⟨c.bound,?_⟩;have q:=c.exc;unfold PySem.W.excIn at q;split at q
 case h_2=>cases q
 next od cl slots look =>
 split at q
 case h_2=>cases q
 next C1 rest s0 s1 s2 s3 nw s5 em es =>
 simp only[Bool.and_eq_true,beq_iff_eq,Bool.not_eq_true'] at q;obtain⟨⟨⟨⟨⟨q1,q2⟩,q3⟩,q4⟩,q5⟩,q6⟩:=q;obtain⟨c1,c2,c3,c4,c5,c6,c7,c8,c9,c10,c11⟩:=cl;dsimp only at em q3 q5 q6;subst q1 em q3;have e3:slots=#[s0,s1,s2,s3,some (.builtin nw),s5]:=by
  cases slots with
  | mk l=>exact a7 Array.mk es
 subst e3;rw[q2] at look;exact⟨rest,_,_,_,_,_,_,_,_,_,od,s0,s1,s2,s3,s5,_,vG _ _ look,.of_isNs (PySem.W.isNs_of_in vG q5),PySem.W.nsMap_none_of_in vG q5 q6,PySem.W.tail_of_in vG q4⟩
structure Cb (P:Program) (w:World) (C:Addr) (outer:List Env) (H:Hp) (s:Shared) (E:XK) (H':Hp) (B:Heap) (s':Shared):Prop where
 ok:jv P w H' B
 kb:∀b o,s.heap.get? b=some o→H b=none→b∉nj outer→B.get? b=some o
 th:∀b o,s.heap.get? b=some o→b∉nj outer→∃o',B.get? b=some o'
 un:Un (nj outer) [] H H' s.heap s'.heap
 fr:s'.heap.FunFrames B outer
 os:s'.os=s.os
 bare:AllBare s'.gens
 ev:E (.ref C) none H'
def Cc (P:Program) (w:World) (C:Addr):vP:=fun outer H s E e s' =>
 ∃(H':Hp) (a:Addr) (a0:Value) (B:Heap),e=.ref a∧Heap.FlyingW B outer a (.ref C) a0 s'.heap∧Cb P w C outer H s E H' B s'
section
variable {P:Program} {w:World} {C:Addr} {outer l:List Env} {H H' H1:Hp} {s s' s1:Shared} {E:XK} {B h':Heap}
theorem Cb.Xo (F:Cb P w C l H s E H' B s') (st:B.StaysIn h') (sm:s'.heap.UpToSlots h'):Un (nj l) [] H H' s.heap h':=by
 have up:∀b∈nj l,∀o,s'.heap.get? b=some o→∃sl,h'.get? b=some { o with slots:=sl }:=fun b hb o e=>by
  obtain⟨_,o',e',d⟩:=F.fr.mem hb;rw[e] at e';cases e';exact sm b o e d
 refine⟨fun b o e n hb _=>st b o (F.kb b o e n hb),fun b o e n hb hx=>?_,F.un.free,fun b o e hx=>?_,F.un.vD,F.un.ug,F.un.vE⟩
 ·obtain⟨sl,e1⟩:=F.un.slot b o e n hb hx;obtain⟨sl2,e2⟩:=up b hb _ e1;exact⟨sl2,e2⟩
 ·by_cases hb:b∈nj l
  ·obtain⟨o1,e1⟩:=F.un.there b o e hx;obtain⟨sl,e2⟩:=up b hb _ e1;exact⟨_,e2⟩
  ·obtain⟨o1,e1⟩:=F.th b o e hb;exact⟨o1,st b o1 e1⟩
end
section
variable {P:Program} {w:World} {K:aP} {mg:Str→Option Value} {base:Heap} {N:List Str} {qual:Str} {scope:Scope} {f:Addr} {cd:Value} {A:Around} {outer:List Env} {s0:Shared} {H0:Hp} {E:XK} {C:Addr}
abbrev zI (C:Addr) (P:Program) (w:World) (K:aP) (mg:Str→Option Value) (base:Heap) (N:List Str) (qual:Str) (scope:Scope) (f:Addr) (cd:Value) (A:Around) (outer:List Env) (s0:Shared) (H0:Hp) (E:XK):Cx:=vQ (Cc P w C) P w K mg base N qual scope f cd A outer s0 H0 E
theorem Cb.out {pins:List (Addr×Obj)} {σ:L2.St} {H1 H':Hp} {s1 s':Shared} {B h':Heap} {a:Addr} {a0:Value} (I:Inv (zI C P w K mg base N qual scope f cd A outer s0 H0 E) pins σ H1 s1)
  (F:Cb P w C (zI C P w K mg base N qual scope f cd A outer s0 H0 E).stack H1 s1 E H' B s') (fl:Heap.FlyingW B outer a (.ref C) a0 h') (sm:s'.heap.UpToSlots h'):Cb P w C outer H0 s0 E H' B { s' with heap:=h' }:=by
 have I2:=Inv.FQ (s':={ s' with heap:=h' }) (ch:=[]) I F.os (F.Xo fl.1 sm) (F.ok.kept fl.1) F.bare (fun b z=>nomatch z);have nf:∀b o,s0.heap.get? b=some o→b∉nj outer→b∉nj (zI C P w K mg base N qual scope f cd A outer s0 H0 E).stack:=fun b o e hb z =>
  (cO.mp (I.Aj b z)).elim (dJ (cg (Heap.lt_size e) I.ok.above)) hb
 refine⟨F.ok,fun b o e n hb=>?_,fun b o e hb=>?_,I2.base,fl.2.2.1,I2.os,F.bare,F.ev⟩
 ·exact F.kb b o (I.base.keep b o e n hb (fun z=>nomatch z)) (I.base.free b o e n (fun z=>nomatch z)) (nf b o e hb)
 ·obtain⟨o1,e1⟩:=I.base.there b o e (fun z=>nomatch z);exact F.th b o1 e1 (nf b o e hb)
theorem QZ:Passes (Cc P w C) (zI C P w K mg base N qual scope f cd A outer s0 H0 E) E:=by
 rintro pins σ H1 s1 e s' I ⟨H',a,a0,B,rfl,fl,F⟩;refine wpAny_leaves_onW I.ok.frames rfl fl fun h' fl' sm=>?_;exact⟨H',a,a0,B,rfl,fl',F.out I fl' sm⟩
theorem qs {np qF pos:Pos} (c:Ud K mg C) (hg:Gl (zI C P w K mg base N qual scope f cd A outer s0 H0 E) "NoNumber") :
  PS (zI C P w K mg base N qual scope f cd A outer s0 H0 E) (.Raise (some (.Call (.Name "NoNumber" np) [] [] qF)) none pos) (fun _ _ H1=>E (.ref C) none H1):=by
 intro pins s σ H1 D I h;obtain⟨t1,t2,t3,t4,t5,t6,t7,t8,t9,t10,t11,t12,t13,t14,t15,T4,t17,hC,hN,hni,T⟩:=((MM I.ok.mod.vG c).keeps I.bk).obj;refine wpAny_Raise_call_subT (C:=C) (nm:=t3) (q:=t4) (N:=t2) (bs:=t5) (bm:=t1) (hdct:=t6) (sn:=t7) (sub:=t8) (ab:=t9) (col:=t10) (dd:=t11) (k0:=t12) (k1:=t13) (k2:=t14) (k3:=t15) (k5:=T4)
  PySem.F.excBase_Exception (mN:=t17) (T.hasType PySem.F.excBase_Exception.hasBase) (I.ok.hd rfl) rfl hni (kc I hg c.bound ⟨rfl,evalArgs_empty ⟨rfl,iC _,hC,hN,T,fun h' e hm=>?_⟩⟩)
 have Ub:∀env∈(zI C P w K mg base N qual scope f cd A outer s0 H0 E).stack,∀b,env.frame=some b→b∈nj (zI C P w K mg base N qual scope f cd A outer s0 H0 E).stack:=fun env he b hb=>Et.mpr ⟨env,he,hb⟩;have ff:=PySem.W.funFrames_hide I.stack Ub;refine wpAny_leaves_madeW (base:=PySem.W.hideAll s.heap (nj (zI C P w K mg base N qual scope f cd A outer s0 H0 E).stack)) I.ok.frames rfl (fun b o q=>PySem.W.of_hideAll _ q) ff hm fun h2 t fl _ _ sm=>?_;have F0:Cb P w C (zI C P w K mg base N qual scope f cd A outer s0 H0 E).stack H1 s E H1 (PySem.W.hideAll s.heap (nj (zI C P w K mg base N qual scope f cd A outer s0 H0 E).stack)) { s with heap:=h' }:=by
  refine⟨fun a o e=>?_,fun b o e _ hb=>PySem.W.hideAll_get _ e hb,fun b o e hb=>⟨o,PySem.W.hideAll_get _ e hb⟩,Un.kept hm.keeps,ff.of_keeps fun b o e _=>⟨o,hm.keeps b o e,rfl⟩,rfl,I.bare,h⟩;refine(I.du a o e).yE (fun b u hb q=>PySem.W.hideAll_get _ q fun z=>?_) (fun _ q=>q) (fun _ _ q=>q);have n:=I.AQ b z;rcases hb with rfl | hb
  ·rw[e] at n;cases n
  ·rw[hb] at n;cases n
 exact⟨H1,e,.ref t,_,rfl,fl,F0.out I fl sm⟩
theorem Xp {k:Nat} {f:Addr} {fd:FuncData} {ps:List Str} {sp QU:Sp} (F:jA P w K mg base (Cc P w C) k f fd ps sp)
  (h:∀vs H Q E,QU vs H Q E→sp vs H (fun v H'=>aI H H'∧Q v H) (fun v d H'=>aI H H'∧E v d H)):jA P w K mg base (Cc P w C) k f fd ps QU:=by
 refine⟨fun vs H Q E q=>F.len _ _ _ _ (h _ _ _ _ q),fun A outer s H args us vs Q E hr he hb hv hs=>?_⟩;refine codeAny_mono (F.run A outer s H args us vs _ _ hr he hb hv (h _ _ _ _ hs)) fun r s' hq=>?_;cases r with
 | error e =>
  obtain⟨H',a,a0,B,rfl,fl,Fl⟩:=hq;exact⟨H,a,a0,B,rfl,fl,restrict he.du Fl.ev.1 Fl.ok,Fl.kb,Fl.th,⟨Fl.un.keep,Fl.un.slot,fun _ _ _ n _=>n,Fl.un.there,fun _ _ e=>e,fun _ _ _ e=>e,fun b ps e=>⟨#[],by rw[e];simp⟩⟩,Fl.fr,Fl.os,Fl.bare,Fl.ev.2⟩
 | ok fl =>
  cases fl with
  | ret u =>
   obtain⟨v,H',os,bare,un,du,rv,sm,q⟩:=hq;exact⟨v,H,os,bare,⟨un.keep,un.slot,fun _ _ _ n _=>n,un.there,fun _ _ e=>e,fun _ _ _ e=>e,fun b ps e=>⟨#[],by rw[e];simp⟩⟩,restrict he.du sm du,rv,q⟩
  | next=>exact hq
  | brk=>exact hq
  | cont=>exact hq
def Ft (C:Addr) (P:Program) (w:World) (K:aP) (mg:Str→Option Value) (base:Heap) (x:Str) (ps:List Str) (k:Nat) (sp:Sp):Prop :=
 ∃f fd,jA P w K mg base (Cc P w C) k f fd ps sp∧mg x=some (.ref f)∧PySem.W.keepIn K (.ref f)=true∧Binds K fd ps []
theorem Q0 {x:Str} {st:Stmt} {ps N:List Str} {k:Nat} {sp:Sp} (d:Df K mg x st ps) (S:aD N ps (ay st)) (len:∀vs H Q E,sp vs H Q E→vs.length=ps.length)
  (pW:∀(f:Addr) (bw:Value) (A:Around) (outer:List Env) (s:Shared) (H:Hp) (vs:List V) (Q:L2.VK) (E:XK),fk k (A.deeper (envOfC x (ay st) s.heap.objs.size f bw))→sp vs H Q E →
   ∃t,qP (zI C P w K mg base N x (ay st) f bw A outer s H (fun v d H'=>aI H H'∧E v d H)) (gO st) t∧t { nx:=fun _ H'=>aI H H'∧Q .fV H,rt:=fun v H'=>aI H H'∧Q v H } (start N vs) H):Ft C P w K mg base x ps (k+1) sp:=by
 obtain⟨f,fd,F,hm,hb⟩:=d;obtain⟨oc,od,kV,doc,pm,an,bw,ct,nq,rfl,lk,AU⟩:=F.ex;refine⟨f,_,Xp (sp:=fun vs H Q E=>∃(Q':L2.VK) (E':XK),sp vs H Q' E'∧Q=(fun v H'=>aI H H'∧Q' v H)∧E=fun v d H'=>aI H H'∧E' v d H) (PR lk AU S (fun vs H Q E ⟨Q',E',h,_⟩=>len vs H Q' E' h) fun A outer s H vs Q E hr h=>?_)
  fun vs H Q E h=>⟨Q,E,h,rfl,rfl⟩,hm,F.kp,hb⟩
 obtain⟨Q',E',h,rfl,rfl⟩:=h;exact pW f bw A outer s H vs Q' E' hr h
end
section
variable {X:Cx} {x:Str} {ps:List Str} {j k:Nat} {sp:Sp} {p pos:Pos} {e:Expr} {es:List Expr} {t:TA} {C:Addr} {E:XK}
theorem Uj (h:Ft C X.prog X.w X.K X.mg X.base x ps j sp) (hr:fk k X.A) (hk:j≤k) (hg:Gl X x) (hx:Passes (Cc X.prog X.w C) X E) (ha:PA X (e::es) t) (pV:autoParam ((x==("__debug__":Str))=false) ig)
  (he:autoParam (starEach (e::es) X.env=(false,eval e X.env)::starEach es X.env) cW) (gH:autoParam ((backTo pos (starEach es X.env)).any (·.1)=false) cW) :
  PE X (.Call (.Name x p) (e::es) [] pos) (rm sp [] E t):=by
 obtain⟨f,fd,F,hm,kp,hb⟩:=h;exact HN F (hr.mono hk) hg hm kp hb .nil hx ha pV he gH
def aaB (tb:XK→TS) (th:TS):TS:=fun D σ H=>tb (fun _ _ H'=>th D (σ.map fun _=>none) H') D σ H
abbrev Cx.at (X:Cx) (pn:List (Addr×Obj)) (W:Value→Shared→Prop):Cx:={ X with pn:=pn,xe:=W }
abbrev Cx.held (X:Cx) (e:Value):Cx:={ X with A:=X.A.mark (some e),calm:=false,xe:=fun _ _=>False }
theorem aaC {pn Q1:List (Addr×Obj)} {W W':Value→Shared→Prop} (ok:(Cx.at X pn W).Ok):(Cx.at X Q1 W').Ok :=
 ⟨ok.mod,ok.kind,ok.glob,ok.blt,ok.above,ok.inj,ok.has,ok.Hs,ok.hd,ok.frames,ok.Ki,ok.AO,ok.bs,ok.zt,ok.yF,ok.yG,ok.mr,ok.DM⟩
theorem Uk {e:Value} (ok:X.Ok):(Cx.held X e).Ok :=
 ⟨ok.mod,ok.kind,ok.glob,ok.blt,ok.above,ok.inj,ok.has,ok.Hs,(fun z=>by cases z),ok.frames,ok.Ki,ok.AO,ok.bs,ok.zt,ok.yF,ok.yG,ok.mr,ok.DM⟩
theorem Ov {e:Value} (hd:X.calm=true→X.A.handled=none) (ok:(Cx.held X e).Ok):X.Ok :=
 ⟨ok.mod,ok.kind,ok.glob,ok.blt,ok.above,ok.inj,ok.has,ok.Hs,hd,ok.frames,ok.Ki,ok.AO,ok.bs,ok.zt,ok.yF,ok.yG,ok.mr,ok.DM⟩
variable {pins pn Q1 jK:List (Addr×Obj)} {σ:L2.St} {H:Hp} {s:Shared} {W W':Value→Shared→Prop}
theorem GF (I:Inv (Cx.at X pn W) pins σ H s) (h:∀q∈Q1++jK,q∈pn++pins):Inv (Cx.at X Q1 W') jK σ H s :=
 ⟨aaC I.ok,I.os,I.bare,I.base,I.loc,I.cell,I.free,I.ka,fun q hq=>I.pin q (h q hq),I.du,I.len⟩
theorem Jf {v:Value} (I:Inv X pins σ H s):Inv (Cx.held X v) pins σ H s:=⟨Uk I.ok,I.os,I.bare,I.base,I.loc,I.cell,I.free,I.ka,I.pin,I.du,I.len⟩
theorem Lm {v:Value} (hd:X.calm=true→X.A.handled=none) (I:Inv (Cx.held X v) pins σ H s):Inv X pins σ H s:=⟨Ov hd I.ok,I.os,I.bare,I.base,I.loc,I.cell,I.free,I.ka,I.pin,I.du,I.len⟩
theorem Q2 {Y:Cx} {D:Ends} {fl:Flow} (h:SP X pins D fl s) (hi:∀σ H,Inv X pins σ H s→Inv Y jK σ H s):SP Y jK D fl s:=by
 cases fl with
 | next=>obtain⟨σ,H,I,q⟩:=h;exact⟨σ,H,hi _ _ I,q⟩
 | brk=>obtain⟨σ,H,I,q⟩:=h;exact⟨σ,H,hi _ _ I,q⟩
 | cont=>obtain⟨σ,H,I,q⟩:=h;exact⟨σ,H,hi _ _ I,q⟩
 | ret u=>obtain⟨v,σ,H,I,r,q⟩:=h;exact⟨v,σ,H,hi _ _ I,r,q⟩
theorem Q3 {np hp tp:Pos} {body:List Stmt} {b0:Stmt} {Q4:List Stmt} {tb:XK→TS} {th:TS} (c:Ud X.K X.mg C) (hg:Gl X "NoNumber") (qQ:X.stack=X.env::X.outer) (hf:X.env.frame=some X.env.locals)
  (hb:∀(pn:List (Addr×Obj)) (W:Value→Shared→Prop) (E:XK),Passes (Cc X.prog X.w C) (Cx.at X pn W) E→qP (Cx.at X pn W) body (tb E)) (hh:∀v:Value,qP (Cx.held X v) (b0::Q4) th) :
  PS X.vI (.Try body [.ExceptHandler (some (.Name "NoNumber" np)) none (b0::Q4) hp] [] [] tp) (aaB tb th):=by
 intro pins s σ H D I hw;refine wpAny_Try_except ?_;have hps:Passes (Cc X.prog X.w C) (Cx.at X (X.pn++pins) fun e s'=>∃(jK:List (Addr×Obj)) (σ':L2.St) (H1:Hp) (s1:Shared),Inv (Cx.at X (X.pn++pins) fun _ _=>False) jK σ' H1 s1∧Cc X.prog X.w C X.stack H1 s1 (fun _ _ H'=>th D (σ.map fun _=>none) H') e s')
   (fun _ _ H'=>th D (σ.map fun _=>none) H'):=fun jK σ' H1 s1 e s' I' q=>⟨jK,σ',H1,s1,GF I' fun q hq=>hq,q⟩
 have I1:Inv (Cx.at X (X.pn++pins) fun e s'=>∃(jK:List (Addr×Obj)) (σ':L2.St) (H1:Hp) (s1:Shared),Inv (Cx.at X (X.pn++pins) fun _ _=>False) jK σ' H1 s1∧Cc X.prog X.w C X.stack H1 s1 (fun _ _ H'=>th D (σ.map fun _=>none) H') e s') [] σ H s :=
  GF (pn:=X.pn) (pins:=pins) (W:=fun _ _=>False) I fun q hq=>by simpa using hq
 refine wpAny_mono (hb _ _ _ hps [] s σ H D I1 hw) (fun fl s1 hs=>?_) fun e s1 hs=>?_
 ·have NZ:SP X.vI pins D fl s1:=Q2 hs fun σ H I=>GF (Q1:=X.pn) (jK:=pins) (W':=fun _ _=>False) I fun q hq=>by simpa using hq
  cases fl with
  | next=>exact wpAny_execs_nil NZ
  | brk=>exact NZ
  | cont=>exact NZ
  | ret u=>exact NZ
 ·obtain⟨jK,σ',H1,N6,I',H',a,a0,B,rfl,fl,F⟩:=hs;have J:Inv X.vI pins (σ.map fun _=>none) H1 N6:=by
   have J0:Inv (Cx.at X X.pn fun _ _=>False) pins σ' H1 N6:=GF I' fun q hq=>yQ _ hq;refine J0.weak (by rw[aF];exact I.len.trans I'.len.symm) fun i v e=>?_;rw[aT] at e;cases h:σ[i]? with
   | none=>rw[h] at e;cases e
   | some o=>rw[h] at e;cases e
  rw[qQ] at fl;have fs:X.A.frames=some (X.env::X.outer):=by rw[←qQ];exact I.ok.frames
  refine wpAny_looks_onW fs hf fl fun h4 Xq sm4=>?_;refine wpAny_landsW Xq fun h5 Ul sm5=>?_;have VU:=sm4.trans sm5;have J5:Inv X.vI pins (σ.map fun _=>none) H' { s1 with heap:=h5 }:=Inv.FQ (s':={ s1 with heap:=h5 }) (ch:=[]) J F.os (F.Xo Ul.1 VU) (F.ok.kept Ul.1) F.bare (fun b z=>nomatch z);obtain⟨ob,hob,aaD⟩:=Ul.there;refine wpAny_handleBy_cons (codeAny_handlers_test (kc (X:=Cx.held X (.ref a)) (Jf (X:=X.vI) J5) hg c.bound ?_)) (by intro q;cases q);obtain⟨t1,t2,t3,t4,t5,t6,t7,t8,t9,t10,t11,t12,t13,t14,t15,T4,t17,hC,hN,hni,T⟩:=((MM J5.ok.mod.vG c).keeps J5.bk).obj;refine wpAny_excMatches_sub_self hC hob aaD (T.hasType PySem.F.excBase_Exception.hasBase) (codeAny_handlers_suite ?_);refine lands_againW Ul fun h6 fl6 sm6=>?_;have J6:Inv X.vI pins (σ.map fun _=>none) H' { s1 with heap:=h6 }:=Inv.FQ (s':={ s1 with heap:=h6 }) (ch:=[]) J F.os (F.Xo fl6.1 (VU.trans sm6)) (F.ok.kept fl6.1) F.bare (fun b z=>nomatch z);refine wpAny_mono (hh (.ref a) pins _ _ H' D (Jf (X:=X.vI) J6) F.ev) (fun fl2 s2 Nr=>?_) fun _ _ z=>False.elim z;exact Q2 Nr fun σ H I2=>Lm (X:=X.vI) I.ok.hd I2
end
def aaF (t:TE):TE:=fun σ H Q=>∃(v:V) (R:Hp→Prop),t σ H (fun x H1=>x=v∧R H1)∧∀H1,R H1→Q v H1
def Xr (t:TE):TE:=fun σ H Q=>∃(R:Addr→Hp→Prop),t σ H (fun x H1=>∃l,x=.ref l∧R l H1)∧∀l H1,R l H1→Q (.ref l) H1
def Xs (t:TT):TT:=fun σ H Q=>∃(c:Bool) (R:Hp→Prop),t σ H (fun b H1=>b=c∧R H1)∧∀H1,R H1→Q c H1
section
variable {X:Cx} {e:Expr}
theorem MO {t:TE} (h:PE X e t):PE X e (aaF t):=by
 intro pins s σ H Q I hw;obtain⟨v,R,h1,q⟩:=hw;refine dA (h pins s σ H _ I h1) fun b s1 ⟨x,H1,I1,rx,e1,e2⟩=>?_;subst e1;exact⟨_,_,I1,rx,q _ e2⟩
theorem wJ {t:TE} (h:PE X e t):PE X e (Xr t):=by
 intro pins s σ H Q I hw;obtain⟨R,h1,q⟩:=hw;refine dA (h pins s σ H _ I h1) fun b s1 ⟨x,H1,I1,rx,l,e1,e2⟩=>?_;subst e1;exact⟨_,_,I1,rx,q _ _ e2⟩
theorem Um {t:TT} (h:PT X e t):PT X e (Xs t):=by
 intro pins s σ H Q I hw;obtain⟨c,R,h1,q⟩:=hw;refine dA (h pins s σ H _ I h1) fun b s1 ⟨H1,I1,e1,e2⟩=>?_;subst e1;exact⟨_,I1,q _ e2⟩
end
theorem Q5 {K:aP} {H:Hp} {a:Addr} {xs ys:List V} (h:bU K H a xs) (e:xs=ys):bU K H a ys:=by rw[←e];exact h
def MP (xs:List V):Prop:=∃m:List Int,xs=m.map V.int
theorem rV {K:aP} {H:Hp}:∀m:List Int,uL K H (m.map V.int) (m.map PyData.int)
 | []=>.nil
 | i::m=>.cons (.int i) (rV m)
theorem Fu:∀m n:List Int,PyData.eqvAll (m.map PyData.int) (n.map PyData.int)=decide (m=n)
 | [],[]=>rfl
 | [],_::_=>rfl
 | _::_,[]=>rfl
 | i::m,j::n=>by
  show (PyData.eqv (.int i) (.int j)&&PyData.eqvAll (m.map PyData.int) (n.map PyData.int))=_;rw[Fu m n];show (i==j&&decide (m=n))=decide (i::m=j::n);by_cases h:i=j<;>by_cases h2:m=n<;>simp[h,h2]
theorem zf:∀{m n:List Int},m.map V.int=n.map V.int→m=n
 | [],[],_=>rfl
 | i::m,j::n,h=>by
  simp only[fU,List.cons.injEq,V.int.injEq] at h;rw[h.1,zf h.2]
 | [],_::_,h=>by cases h
 | _::_,[],h=>by cases h
theorem Fv:∀m:List Int,PyData.canLayAll0 (m.map PyData.int)=true
 | []=>by simp[PyData.canLayAll0]
 | i::m=>by rw[fU,PyData.canLayAll0,Fv m,PyData.canLay0];rfl
theorem zg:∀m:List Int,PyData.depthAll (m.map PyData.int)=0
 | []=>by simp[PyData.depthAll]
 | i::m=>by rw[fU,PyData.depthAll,zg m,PyData.depth];rfl
theorem shaped_ints (m:List Int):SeqAt.shaped (.list (m.map PyData.int))=true:=by
 unfold SeqAt.shaped;rw[PyData.canLay0,PyData.depth,Fv,zg];rfl
def wK (xs ys:List V):Bool:=decide (xs=ys)
theorem fu {xs ys:List V}:wK xs ys=true↔xs=ys:=bj
def aaG (K:aP):R2:=fun x y H Q=>∃a b xs ys,x=.ref a∧y=.ref b∧bU K H a xs∧bU K H b ys∧MP xs∧MP ys∧Q (.bl (wK xs ys)) H
theorem dj (l:List Nat):MP (l.map fun (c:Nat)=>V.int c):=⟨l.map fun (c:Nat)=>(c:Int),by rw[ju];rfl⟩
theorem dO (l:List UInt8):MP (l.map fun (c:UInt8)=>V.int (c.toNat:Nat)):=⟨l.map fun (c:UInt8)=>((c.toNat:Nat):Int),by rw[ju];rfl⟩
section
variable {X:Cx}
theorem jI (hu:X.A.units+64<cLine):i9 X (compareOp .Eq) (aaG X.K):=B7 (Ta hu) fun x y H Q ⟨a,b,xs,ys,ex,ey,ha,hb,⟨m,em⟩,⟨n,en⟩,q⟩=>by
 subst ex ey em en;refine⟨_,_,.lst ha (rV m),.lst hb (rV n),shaped_ints m,shaped_ints n,?_⟩;have:PyData.eqv (.list (m.map PyData.int)) (.list (n.map PyData.int))=wK (m.map V.int) (n.map V.int):=by
  show PyData.eqvAll _ _=_;rw[Fu];unfold wK;exact tP.mpr ⟨fun h=>by rw[h],zf⟩
 rw[this];exact q
end
set_option smartUnfolding false
structure Tx (K:aP) (mg:Str→Option Value) (C:Addr):Prop where
 ex:QX K C
 DOUBLE:CI mg "DOUBLE" (3)
 kU:CI mg "LAST_KIND" (3)
 e8:CI mg "NEAREST" (0)
 Fw:CI mg "DOWN" (1)
 UP:CI mg "UP" (2)
 wL:CI mg "TOWARD_ZERO" (3)
 D4:CI mg "NEAREST_AWAY" (4)
 g8:CI mg "LAST_MODE" (4)
 zJ:CI mg "LAST_OPERATION" (10)
 Ow:CI mg "LAST_HOW" (1)
 Ln:CI mg "UNORDERED" (2)
 Cd:CI mg "LAST_FUNCTION" (5)
 aaH:CI mg "ROOT" (4)
 Q6:CI mg "POWER" (5)
 hZ:CI mg "ONE" (4607182418800017408)
 Ce:CI mg "TWO_TO_THE_52" (4841369599423283200)
 Q7:CI mg "ABOVE_F" (4609047870845172685)
 zK:CI mg "LEAST_EXPONENT" (-1200)
 vd:CI mg "GREATEST_EXPONENT" (1100)
 D5:CI mg "COSINE_FIRST" (4607182418800017408)
 Jg:CI mg "LAST_ORDER" (4)
 wM:CI mg "EXACT_ORDER" (4)
 D6:CI mg "LONGEST_TEXT" (60)
 qW:CI mg "MOST_EXPONENT_DIGITS" (3)
 zh:CI mg "DIGIT_ZERO" (48)
 Jh:CI mg "DIGIT_NINE" (57)
 aaI:CI mg "PLUS" (43)
 Lo:CI mg "MINUS" (45)
 Xu:CI mg "POINT" (46)
 Xv:CI mg "BIG_E" (69)
 Q8:CI mg "SMALL_E" (101)
 Ji:CI mg "DONE" (0)
 gT:CI mg "REFUSED" (-1)
 Lp:CI mg "NO_NUMBER" (-2)
 zL:CI mg "GREATEST_SCALE" (5000)
 D7:CI mg "MOST_NUMBERS" (64)
 Lq:CI mg "MOST_BITS" (48)
 Lr:CI mg "LAST_SIGN" (1)
 kt:CT K mg "EXPONENT_BITS" [.int 5,.int 8,.int 8,.int 11]
 e9:CT K mg "FRACTION_BITS" [.int 10,.int 7,.int 23,.int 52]
 EXP2:CT K mg "EXP2" [.int 4607182418800017408,.int 4604418534313441775,.int 4597823092348339599,.int 4588159806095007936,.int 4576698095722188407,.int 4563791841266919217,.int 4549814923676796807,.int 4535121250368401607,.int 4518847663812495396,.int 4502282772472522692,.int 4485106894419758794,.int 4467162552695110437,.int 4448496323602950534,.int 4429314530977698041]
 LOG2:CT K mg "LOG2" [.int 4613679739648574206,.int 4606838314010018813,.int 4603373076224121854,.int 4601097129459113689,.int 4599447016227734185,.int 4598396944171401773,.int 4597164722873374560,.int 4596098495862329342,.int 4595283145795059469,.int 4594639448373530622,.int 4594118359984673937,.int 4593687895663444501]
 SINE:CT K mg "SINE" [.int 4618760256179416344,.int 13854387181501922899,.int 4635442875846732514,.int 13858470148813536646,.int 4631116052258809730,.int 13848059183245068063,.int 4615784187318865251,.int 13828015527061444420,.int 4592174923320472409]
 Cf:CT K mg "COSINE_OTHERS" [.int 13849621347874784734,.int 4634270120541903556,.int 13859085942699900922,.int 4633675496823044795,.int 13851503584549554828,.int 4620584609291582659,.int 13833771785395049103,.int 4598751787815720949]
 Xw:CT K mg "LANES" [.int 1,.int 2,.int 4,.int 8]
 Cg:mg "abs"=none
 Xx:mg "all"=none
 qt:mg "enumerate"=none
 iu:mg "len"=none
 GH:mg "max"=none
 Ls:mg "min"=none
 Xy:mg "ord"=none
 wN:mg "range"=none
 Jj:mg "reversed"=none
 Xz:mg "sum"=none
 Q9:mg "zip"=none
section
variable {K:aP} {h:Heap} {mg:Str→Option Value}
theorem dW {n:Str} {i:Int} (X:K.In h) (G:h.Ns mainGlobals mg) (r:WG K (n,i)):CI mg n i:=let ⟨t,e⟩:=r;⟨t,PySem.W.mg_of X G e⟩
theorem Lu {a:Addr} {xs:List V} (r:zC K a xs):∀H,j5 K H a xs:=fun _=>.inr r
theorem ve {n:Str} {l:List Int} (X:K.In h) (G:h.Ns mainGlobals mg) (r:WH K (n,l)):CT K mg n (l.map V.int):=let ⟨a,e,t⟩:=r;⟨a,PySem.W.mg_of X G e,Lu t⟩
theorem mR {x:Str} (X:K.In h) (G:h.Ns mainGlobals mg) (r:ZG K x):mg x=none:=PySem.W.mg_none_of X G r
theorem Ch {C:Addr} {m q:Str} {i j:Nat} (r:zD K C m q i j):∃f fd,EO K C m f∧xR K m q (inClass (top i) j) f fd:=by
 obtain⟨f,oc,od,an,nq,kV,doc,pm,bw,ct,a,i,l,c,k⟩:=r;exact⟨f,_,⟨a,i,k⟩,Ar l c k⟩
end
structure Ev (K:aP) (mg:Str→Option Value) (C C2 C3:Addr):Prop where
 h:∃h:Heap,K.In h∧h.Ns mainGlobals mg
 r:Raw K
 T:Tx K mg C
 ex:Qg K "Exact" C∧zD K C "__init__" "Exact.__init__" 32 0
 ac:Qg K "Accumulator" C2∧gb K C2 "total"∧zD K C2 "__init__" "Accumulator.__init__" 105 0∧zD K C2 "make_empty" "Accumulator.make_empty" 105 1∧zD K C2 "take" "Accumulator.take" 105 2∧zD K C2 "rounded_once" "Accumulator.rounded_once" 105 3
 no:Ud K mg C3
section
variable {K:aP} {mg:Str→Option Value} {C C2 C3:Addr}
theorem Ev.df (ak:Ev K mg C C2 C3) (i:Nat) {n:Str} {j:Nat} {ps:List Str} (hi:autoParam (KP[i]?=some (n,j)) cW)
  (b:∀(kV doc pm:Value) (an:Option Addr) (bw ct:Value) (us:List Value),us.length=ps.length→bindArgs (PySem.W.fnOf n n (jB (top j)) (gO (top j)) (ay (top j)) .none kV doc pm an bw ct) ⟨us,[]⟩=pure (ps.zip us):=by
   first | exact fun _ _ _ _ _ _=>BF.zG fun _ _=>rfl | exact fun _ _ _ _ _ _=>BF.zF fun _=>rfl | exact fun _ _ _ _ _ _=>BF.B0 fun _ _ _=>rfl | exact fun _ _ _ _ _ _=>BF.Xb fun _ _ _ _=>rfl | exact fun _ _ _ _ _ _=>BF.kl5 fun _ _ _ _ _=>rfl | exact fun _ _ _ _ _ _=>BF.kl6 fun _ _ _ _ _ _=>rfl | exact fun _ _ _ _ _ _=>BF.Og rfl):Df K mg n (top j) ps:=by
 obtain⟨h,X,G⟩:=ak.h;obtain⟨f,oc,od,an,nq,kV,doc,pm,bw,ct,a,l,c,k⟩:=ak.r.defs i _ hi;exact⟨f,_,Ar l c k,PySem.W.mg_of X G a,(Ar l c k).binds b⟩
end
theorem bz {N P:List Str} {sc:Scope} (a:autoParam (sc.kind=.function) cW) (b:autoParam (sc.isCoroutine=false) cW) (c:autoParam (sc.isGenerator=false) cW) (d:N.Nodup:=by decide +kernel) (e:autoParam (N.take P.length=P) cW)
 (f:∀x∈P,sc.names.lookup x=some .local∨sc.names.lookup x=some .cell:=by decide +kernel) (g:∀y∈sc.names,y.2≠.free:=by decide +kernel):aD N P sc:=⟨a,b,c,d,e,f,g⟩
section
variable {X:Cx} {x:Str} {ps:List Str} {i j k:Nat} {sp:Sp} {p pos pos':Pos} {e a b:Expr} {es:List Expr} {t:TA} {ta tb te:TE} {C:Addr} {E:XK} {op:CmpOp} {r:R2}
theorem pf (h:ML X x ps j sp) (hr:fk k X.A) (ha:PA X (e::es) t) (hk:autoParam (j≤k) ig) (hg:Gl X x:=by exact rfl) (pV:autoParam ((x==("__debug__":Str))=false) ig)
 (he:autoParam (starEach (e::es) X.env=(false,eval e X.env)::starEach es X.env) cW) (gH:autoParam ((backTo pos (starEach es X.env)).any (·.1)=false) cW):PE X (.Call (.Name x p) (e::es) [] pos) (rm sp [] E0 t):=Xj h hr hk hg ha pV he gH
theorem Ra (h:ML X x ps j sp) (hr:fk k X.A) (hk:autoParam (j≤k) ig) (hg:Gl X x:=by exact rfl) (pV:autoParam ((x==("__debug__":Str))=false) ig):PE X (.Call (.Name x p) [] [] pos) (rm sp [] E0 ER):=Ua h hr hk hg pV
theorem XA (h:Ft C X.prog X.w X.K X.mg X.base x ps j sp) (hr:fk k X.A) (hx:Passes (Cc X.prog X.w C) X E) (ha:PA X (e::es) t) (hk:autoParam (j≤k) ig) (hg:Gl X x:=by exact rfl) (pV:autoParam ((x==("__debug__":Str))=false) ig)
 (he:autoParam (starEach (e::es) X.env=(false,eval e X.env)::starEach es X.env) cW) (gH:autoParam ((backTo pos (starEach es X.env)).any (·.1)=false) cW):PE X (.Call (.Name x p) (e::es) [] pos) (rm sp [] E t):=Uj h hr hk hg hx ha pV he gH
theorem sv (i:Nat) (hN:X.N.Nodup) (he:PE X e te) (hi:X.N[i]?=some x:=by exact rfl) (hx:Loc X.env.scope x:=by first | exact Or.inl rfl | exact Or.inr rfl) (hs:autoParam (swapsWith e (some (.Name x pos')) pos.line X.env=pure false) cW) (hf:autoParam (X.fn x=true∨X.env.scope.names.lookup x=some .local) Hq) :
 PS X (.Assign [.Name x pos'] e pos) (Mh te (AW i)):=SK hN hi hx he hs hf
theorem iB (ho:i9 X (compareOp op) r) (ha:PE X a ta) (hb:PE X b tb) (hm:behindInMarks op b=false:=by exact Mq _):PE X (.Compare a [op] [b] pos) (Kq r ta tb):=PF ho ha hb hm
theorem b8 (ho:i9 X (compareOp op) r) (ha:PE X a ta) (hb:PE X b tb) (hm:behindInMarks op b=false:=by exact Mq _):PT X (.Compare a [op] [b] pos) (Kr (Kq r ta tb)):=PH ho ha hb hm
theorem et (hr:S4 X r) (ha:PE X a ta) (hb:PE X b tb) (hs:Bb b:=by exact fun _ _=>rfl):PE X (.Subscript a b pos) (Kq r ta tb):=Wn hr ha hb hs
end
def VK (k:Int):Prop:=0≤k∧k≤3
def VM (m:Int):Prop:=0≤m∧m≤4
def VB (k x:Int):Prop:=VK k∧0≤x∧x<2*BF.aU (BF.fm k)
theorem MQ {k:Int} (h:VK k):lD [V.int 5,.int 8,.int 8,.int 11] k=some (.int (BF.fm k).e):=by
 rcases BF.uw h.1 h.2 with rfl | rfl | rfl | rfl<;>rfl
theorem uz {k:Int} (h:VK k):lD [V.int 10,.int 7,.int 23,.int 52] k=some (.int (BF.fm k).m):=by
 rcases BF.uw h.1 h.2 with rfl | rfl | rfl | rfl<;>rfl
theorem aaJ {j:Nat} (h:j≤100):(0:Int)≤j∧(j:Int)≤60000∧Sm 60000 1:=⟨Kk,Kk,b6 Ke Ke⟩
theorem Jk (j:Nat):(1:Int)*2^((j:Int)).toNat=2^j:=by rw[de,aN]
section
variable {P:Program} {w:World} {K:aP} {mg:Str→Option Value} {base:Heap} {C C2 C3:Addr}
def Ci (K:aP) (C:Addr):Sp:=fun vs H Q _=>∃k,vs=[.int k]∧(VK k)∧Q (.int (BF.nb (BF.fm k))) H
theorem Cj:aD ["kind"] ["kind"] (ay (top 5)):=bz
theorem jE (ak:Ev K mg C C2 C3):cw P w K mg base "byte_count" ["kind"] 1 (Ci K C):=by
 have T:=ak.T;refine bc (ak.df 0) Cj tZ (ua fun f bw A outer s H Q E hr k h=>?_);obtain⟨hp,q⟩:=h;have sm:=BF.gM k;have e2:=(BF.dm k).e2;refine⟨_,aj (aq (aH ir (aH bX (aH bX (al) (ib T.kt rfl (pv 0))) (ib T.e9 rfl (pv 0))) (al))),bP rfl rfl (MQ hp) (ck rfl rfl rfl (bG rfl (uz hp) (bG rfl rfl (bJ rfl rfl (vc Ke Ke) ⟨aI.refl _,?r1⟩))))⟩
 case r1=>exact q
def zM (K:aP) (C:Addr):Sp:=fun vs H Q _=>∃k,vs=[.int k]∧(VK k)∧Q (.int (BF.az (BF.fm k))) H
theorem qJ:aD ["kind","bias"] ["kind"] (ay (top 6)):=bz
theorem ku (ak:Ev K mg C C2 C3):cw P w K mg base "least_power" ["kind"] 1 (zM K C):=by
 have T:=ak.T;refine bc (ak.df 1) qJ tZ (ua fun f bw A outer s H Q E hr k h=>?_);obtain⟨hp,q⟩:=h;have sm:=BF.gM k;have e2:=(BF.dm k).e2;refine⟨_,ah (sv 1 qJ.nd (aH dn (aH dU (al) (aH dn (ib T.kt rfl (pv 0)) (al))) (al))) (aj (aq (aH dn (aH dn (al) (pv 1)) (ib T.e9 rfl (pv 0))))),bP rfl rfl (MQ hp) (bG rfl rfl (bJ rfl rfl ?c1 (bG rfl rfl (aE rfl rfl rfl rfl (bG rfl (uz hp) (bG rfl rfl ⟨aI.refl _,?r1⟩))))))⟩
 case c1=>exact⟨Kk,Kk,b6 Ke Ke⟩
 case r1 =>
  refine bD q ?_;rcases BF.uw hp.1 hp.2 with rfl | rfl | rfl | rfl<;>rfl
def GI (K:aP) (C:Addr):Sp:=fun vs H Q _=>∃k,vs=[.int k]∧(VK k)∧Q (.int (BF.aU (BF.fm k))) H
theorem GJ:aD ["kind"] ["kind"] (ay (top 7)):=bz
theorem n9 (ak:Ev K mg C C2 C3):cw P w K mg base "sign_bit" ["kind"] 1 (GI K C):=by
 have T:=ak.T;refine bc (ak.df 2) GJ tZ (ua fun f bw A outer s H Q E hr k h=>?_);obtain⟨hp,q⟩:=h;have sm:=BF.gM k;have e2:=(BF.dm k).e2;refine⟨_,aj (aq (aH dU (al) (aH bX (ib T.kt rfl (pv 0)) (ib T.e9 rfl (pv 0))))),aE rfl rfl (MQ hp) rfl (bG rfl (uz hp) (bG rfl rfl (bJ rfl rfl ?c1 ⟨aI.refl _,?r1⟩)))⟩
 case c1=>exact⟨Kk,Kk,b6 Ke Ke⟩
 case r1 =>
  refine bD q ?_;rcases BF.uw hp.1 hp.2 with rfl | rfl | rfl | rfl<;>rfl
def wO (K:aP) (C:Addr):Sp:=fun vs H Q _=>∃k,vs=[.int k]∧(VK k)∧Q (.int (BF.bE (BF.fm k))) H
theorem wQ:aD ["kind"] ["kind"] (ay (top 8)):=bz
theorem cF (ak:Ev K mg C C2 C3):cw P w K mg base "infinity_bits" ["kind"] 1 (wO K C):=by
 have T:=ak.T;refine bc (ak.df 3) wQ tZ (ua fun f bw A outer s H Q E hr k h=>?_);obtain⟨hp,q⟩:=h;have sm:=BF.gM k;have e2:=(BF.dm k).e2;refine⟨_,aj (aq (aH dU (aH dn (aH dU (al) (ib T.kt rfl (pv 0))) (al)) (ib T.e9 rfl (pv 0)))),bP rfl rfl (MQ hp) (bJ rfl rfl ?c1 (ck rfl rfl rfl (bG rfl (uz hp) (bJ rfl rfl ?c2 ⟨aI.refl _,?r1⟩))))⟩
 case c1=>exact⟨Kk,Kk,b6 Ke Ke⟩
 case c2 =>
  refine⟨Kk,Kk,b6 ?_ Ke⟩;rcases BF.uw hp.1 hp.2 with rfl | rfl | rfl | rfl<;>decide
 case r1 =>
  refine bD q ?_;rcases BF.uw hp.1 hp.2 with rfl | rfl | rfl | rfl<;>rfl
def GK (K:aP) (C:Addr):Sp:=fun vs H Q _=>∃k,vs=[.int k]∧(VK k)∧Q (.int (BF.nT (BF.fm k))) H
theorem GL:aD ["kind"] ["kind"] (ay (top 9)):=bz
theorem fw (ak:Ev K mg C C2 C3):cw P w K mg base "nan_bits" ["kind"] 2 (GK K C):=by
 have T:=ak.T;refine bc (ak.df 4) GL tZ (ua fun f bw A outer s H Q E hr k h=>?_);obtain⟨hp,q⟩:=h;have sm:=BF.gM k;have e2:=(BF.dm k).e2;refine⟨_,aj (aq (aH bX (aH bX (pf (n9 ak) hr (aa (pv 0) (ae))) (pf (cF ak) hr (aa (pv 0) (ae)))) (aH dU (al) (aH dn (ib T.e9 rfl (pv 0)) (al))))),cP rfl rfl ?p1 (cP rfl rfl ?p2 (ck rfl rfl rfl (bG rfl (uz hp) (bG rfl rfl (bJ rfl rfl ?c1 (bG rfl rfl ⟨aI.refl _,?r1⟩))))))⟩
 case p1=>exact hp
 case p2=>exact hp
 case c1=>exact⟨Kk,Kk,b6 Ke Ke⟩
 case r1 =>
  refine bD q ?_;rcases BF.uw hp.1 hp.2 with rfl | rfl | rfl | rfl<;>rfl
def zN (K:aP) (C:Addr):Sp:=fun vs H Q _=>∃k x,vs=[.int k,.int x]∧(VK k)∧Q (.bl (decide (BF.aU (BF.fm k)≤x))) H
theorem zO:aD ["kind","bits"] ["kind","bits"] (ay (top 10)):=bz
theorem dX (ak:Ev K mg C C2 C3):cw P w K mg base "is_negative" ["kind","bits"] 2 (zN K C):=by
 have T:=ak.T;refine bc (ak.df 5) zO lu (lx fun f bw A outer s H Q E hr k x h=>?_);obtain⟨hp,q⟩:=h;refine⟨_,aj (aq (iB mx (pv 1) (pf (n9 ak) hr (aa (pv 0) (ae))))),aR rfl rfl (eH rfl ?p1 (bG rfl rfl ⟨aI.refl _,?r1⟩))⟩
 case p1=>exact hp
 case r1=>exact q
def ye (K:aP) (C:Addr):Sp:=fun vs H Q _=>∃k x,vs=[.int k,.int x]∧(VK k∧0≤x)∧Q (.int (x%BF.aU (BF.fm k))) H
theorem yf:aD ["kind","bits"] ["kind","bits"] (ay (top 11)):=bz
theorem fe (ak:Ev K mg C C2 C3):cw P w K mg base "without_sign" ["kind","bits"] 2 (ye K C):=by
 have T:=ak.T;refine bc (ak.df 6) yf lu (lx fun f bw A outer s H Q E hr k x h=>?_);obtain⟨hp,q⟩:=h;refine⟨_,aj (aq (aH Mo (pv 1) (aH dn (pf (n9 ak) hr (aa (pv 0) (ae))) (al)))),aR rfl rfl (eH rfl ?p1 (bG rfl rfl (bG rfl rfl ⟨aI.refl _,?r1⟩)))⟩
 case p1=>exact hp.1
 case r1=>exact bD q (P7.vU ((BF.fm k).e+(BF.fm k).m) hp.2)
def D8 (K:aP) (C:Addr):Sp:=fun vs H Q _=>∃k neg z,vs=[.int k,.bl neg,.int z]∧(VK k)∧Q (.int (BF.ws (BF.fm k) neg z)) H
theorem D9:aD ["kind","negative","size"] ["kind","negative","size"] (ay (top 12)):=bz
theorem fE (ak:Ev K mg C C2 C3):cw P w K mg base "with_sign" ["kind","negative","size"] 2 (D8 K C):=by
 have T:=ak.T;refine bc (ak.df 7) D9 lY (lZ fun f bw A outer s H Q E hr k neg z h=>?_);obtain⟨hp,q⟩:=h;refine⟨_,aj (aq (cZ (b9 (aQ (pv 1)) (aH bX (pv 2) (pf (n9 ak) hr (aa (pv 0) (ae)))) (pv 2)))),⟨.int (BF.ws (BF.fm k) neg z),aR rfl rfl (aK (fun h1=>aR rfl rfl (eH rfl ?p1 (bG rfl rfl ?d1))) (fun h1=>bg rfl ?d2)),⟨aI.refl _,?r1⟩⟩⟩
 case p1=>exact hp
 case d1=>exact⟨by unfold BF.ws;rw[ao h1],rfl⟩
 case d2=>exact⟨by unfold BF.ws;rw[ag h1],rfl⟩
 case r1=>exact q
def Lv (K:aP) (C:Addr):Sp:=fun vs H Q _=>∃k x,vs=[.int k,.int x]∧(VK k∧0≤x)∧Q (.bl (BF.cp (BF.fm k) x)) H
theorem Lx:aD ["kind","bits"] ["kind","bits"] (ay (top 13)):=bz
theorem fz (ak:Ev K mg C C2 C3):cw P w K mg base "is_nan" ["kind","bits"] 3 (Lv K C):=by
 have T:=ak.T;refine bc (ak.df 8) Lx lu (lx fun f bw A outer s H Q E hr k x h=>?_);obtain⟨hp,q⟩:=h;refine⟨_,aj (aq (iB eY (pf (fe ak) hr (aa (pv 0) (aa (pv 1) (ae)))) (pf (cF ak) hr (aa (pv 0) (ae))))),bx rfl rfl rfl ?p1 rfl (eH rfl ?p2 (bG rfl rfl ⟨aI.refl _,?r1⟩))⟩
 case p1=>exact hp
 case p2=>exact hp.1
 case r1=>exact q
def zP (K:aP) (C:Addr):Sp:=fun vs H Q _=>∃k x,vs=[.int k,.int x]∧(VK k∧0≤x)∧Q (.bl (BF.hJ (BF.fm k) x)) H
theorem zQ:aD ["kind","bits"] ["kind","bits"] (ay (top 14)):=bz
theorem gB (ak:Ev K mg C C2 C3):cw P w K mg base "is_infinite" ["kind","bits"] 3 (zP K C):=by
 have T:=ak.T;refine bc (ak.df 9) zQ lu (lx fun f bw A outer s H Q E hr k x h=>?_);obtain⟨hp,q⟩:=h;refine⟨_,aj (aq (iB bp (pf (fe ak) hr (aa (pv 0) (aa (pv 1) (ae)))) (pf (cF ak) hr (aa (pv 0) (ae))))),bx rfl rfl rfl ?p1 rfl (eH rfl ?p2 (bG rfl rfl ⟨aI.refl _,?r1⟩))⟩
 case p1=>exact hp
 case p2=>exact hp.1
 case r1=>exact q
def Jl (K:aP) (C:Addr):Sp:=fun vs H Q _=>∃k x,vs=[.int k,.int x]∧(VK k∧0≤x)∧Q (.bl (BF.eC (BF.fm k) x)) H
theorem Jm:aD ["kind","bits"] ["kind","bits"] (ay (top 15)):=bz
theorem je (ak:Ev K mg C C2 C3):cw P w K mg base "is_zero" ["kind","bits"] 3 (Jl K C):=by
 have T:=ak.T;refine bc (ak.df 10) Jm lu (lx fun f bw A outer s H Q E hr k x h=>?_);obtain⟨hp,q⟩:=h;refine⟨_,aj (aq (iB bp (pf (fe ak) hr (aa (pv 0) (aa (pv 1) (ae)))) (al))),br rfl rfl rfl ?p1 (bG rfl rfl ⟨aI.refl _,?r1⟩)⟩
 case p1=>exact hp
 case r1=>exact q
end
theorem Sm.mono {a b:Nat} {z:Int} (h:Sm a z) (TY:a≤b):Sm b z:=cg h (fA Ke TY)
theorem Sm.le {n:Nat} {y z:Int} (h:Sm n y) (hz:z.natAbs≤y.natAbs):Sm n z:=Nat.lt_of_le_of_lt hz h
theorem Sm.shl {a k:Nat} {z:Int} (h:Sm a z):Sm (a+k) (z*2^k):=by
 unfold Sm at *;rw[JZ,J1,eD];exact DH h (cV k)
theorem Sm.neg {a:Nat} {z:Int} (h:Sm a z):Sm a (-z):=by unfold Sm at *;rw[Int.natAbs_neg];exact h
theorem Sm.add {a:Nat} {y z:Int} (h:Sm a y) (h':Sm a z):Sm (a+1) (y+z):=by
 unfold Sm at *;have:=Int.natAbs_add_le y z;rw[gZ];omega
theorem Sm.mul {a b:Nat} {y z:Int} (h:Sm a y) (h':Sm b z):Sm (a+b) (y*z):=by
 unfold Sm at *;rw[JZ,eD];exact Kd h (my h') (cV b)
theorem tF {a:Nat} {z:Int} (h:Sm a z) (h0:0<z):1≤BF.bl z∧BF.bl z≤a:=by
 have:=wH h;have e:=QW z;refine⟨?_,Kk⟩;unfold BF.bl;rw[ag Kk];omega
theorem GN {n d:Int}:BF.bl n-BF.bl d-1≤BF.lead n d∧BF.lead n d≤BF.bl n-BF.bl d:=by
 unfold BF.lead;dsimp only;split<;>omega
def RB (n d p:Int):Prop:=(0≤n∧0<d)∧∃a b:Nat,Sm a n∧Sm b d∧a+b≤8900∧(b:Int)-p≤8900∧p≤9000
section
variable {P:Program} {w:World} {K:aP} {mg:Str→Option Value} {base:Heap} {C C2 C3:Addr}
theorem dt {p:Prop} [Decidable p] (h:decide p=true):p:=eV h
theorem df {p:Prop} [Decidable p] (h:¬decide p=true):¬p:=fun q=>h (dv q)
def Ly (K:aP) (C:Addr):Sp:=fun vs H Q _=>∃m,vs=[.int m]∧(VM m)∧∀m2,VM m2∧BF.md m2=BF.jV (BF.md m)→Q (.int m2) H
theorem Lz:aD ["mode"] ["mode"] (ay (top 25)):=bz
theorem Ox (ak:Ev K mg C C2 C3):cw P w K mg base "turned" ["mode"] 1 (Ly K C):=by
 have T:=ak.T;refine bc (ak.df 13) Lz tZ (ua fun f bw A outer s H Q E hr m h=>?_);obtain⟨hp,q⟩:=h;refine⟨_,ah (aS (b8 bp (pv 0) (aG T.Fw rfl)) (aj (aq (aG T.UP rfl))) (aB)) (aj (aq (cZ (b9 (b8 bp (pv 0) (aG T.UP rfl)) (aG T.Fw rfl) (pv 0))))),aE rfl rfl rfl rfl (aK (fun h1=>⟨aI.refl _,?r1⟩) (fun h1=>⟨.int (if m=2 then 1 else m),aE rfl rfl rfl rfl (aK (fun h2=>?d1) (fun h2=>bg rfl ?d2)),⟨aI.refl _,?r2⟩⟩))⟩
 case r1=>exact q 2 ⟨⟨Ke,Ke⟩,by rw[dt h1];rfl⟩
 case d1=>exact⟨by rw[dt h2];rfl,rfl⟩
 case d2=>exact⟨by rw[ag (df h2)],rfl⟩
 case r2 =>
  refine q _ ?_;by_cases e:m=2
  ·rw[ao e,e];exact⟨⟨Ke,Ke⟩,rfl⟩
  ·rw[ag e];refine⟨hp,?_⟩;rcases BF.wz hp.1 hp.2 with rfl | rfl | rfl | rfl | rfl
   ·rfl
   ·exact absurd h1 Ke
   ·exact absurd rfl e
   ·rfl
   ·rfl
def yg (K:aP) (C:Addr):Sp:=fun vs H Q _=>∃m neg odd tr d,vs=[.int m,.bl neg,.bl odd,.int tr,.int d]∧(VM m)∧Q (.bl (BF.v8 (BF.md m) neg odd tr d)) H
theorem yh:aD ["mode","negative","odd","twice_rest","d"] ["mode","negative","odd","twice_rest","d"] (ay (top 27)):=bz
theorem zR (ak:Ev K mg C C2 C3):cw P w K mg base "goes_outward" ["mode","negative","odd","twice_rest","d"] 1 (yg K C):=by
 have T:=ak.T;refine bc (ak.df 15) yh B5 (B6 fun f bw A outer s H Q E hr m neg odd tr d h=>?_);obtain⟨hp,q⟩:=h;refine⟨_,ah (aS (b8 bp (pv 0) (aG T.Fw rfl)) (aj (aq (pv 1))) (aB)) (ah (aS (b8 bp (pv 0) (aG T.UP rfl)) (aj (aq (pQ (pv 1)))) (aB)) (ah (aS (b8 bp (pv 0) (aG T.wL rfl)) (aj (aq (jL))) (aB)) (ah (aS (b8 bp (pv 3) (pv 4)) (aj (aq (cZ (AV (pv 2) (jj (iB bp (pv 0) (aG T.D4 rfl))))))) (aB)) (aj (aq (iB eY (pv 3) (pv 4))))))),aE rfl rfl rfl rfl (aK (fun h1=>bg rfl ⟨aI.refl _,?r1⟩) (fun h1=>aE rfl rfl rfl rfl (aK (fun h2=>aR rfl rfl ⟨aI.refl _,?r2⟩) (fun h2=>aE rfl rfl rfl rfl (aK (fun h3=>⟨aI.refl _,?r3⟩) (fun h3=>bx rfl rfl rfl rfl rfl (aK (fun h4=>⟨.bl (odd||decide (m=4)),aR rfl rfl (aK (fun h5=>?d2) (fun h5=>bP rfl rfl rfl ?d1)),⟨aI.refl _,?r4⟩⟩) (fun h4=>br rfl rfl rfl rfl ⟨aI.refl _,?r5⟩))))))))⟩
 case r1=>exact wI q (by rw[dt h1];rfl)
 case r2=>exact wI q (by rw[dt h2];rfl)
 case r3=>exact wI q (by rw[dt h3];rfl)
 case d2=>exact⟨by rw[h5];rfl,rfl⟩
 case d1=>exact⟨by rw[aV _ |>.mp h5];rfl,rfl⟩
 case r4 =>
  refine wI q ?_;have e:=dt h4;rcases BF.wz hp.1 hp.2 with rfl | rfl | rfl | rfl | rfl
  ·show (odd||decide ((0:Int)=4))=if tr=d then odd else decide (d<tr)
   rw[ao e];simp
  ·exact absurd rfl (df h1)
  ·exact absurd rfl (df h2)
  ·exact absurd rfl (df h3)
  ·show (odd||decide ((4:Int)=4))=if tr=d then true else decide (d<tr)
   rw[ao e];simp
 case r5 =>
  refine wI q ?_;have e:=df h4;rcases BF.wz hp.1 hp.2 with rfl | rfl | rfl | rfl | rfl
  ·show decide (d<tr)=if tr=d then odd else decide (d<tr)
   rw[ag e]
  ·exact absurd rfl (df h1)
  ·exact absurd rfl (df h2)
  ·exact absurd rfl (df h3)
  ·show decide (d<tr)=if tr=d then true else decide (d<tr)
   rw[ag e]
def vg (K:aP) (C:Addr):Sp:=fun vs H Q _=>∃m neg n d,vs=[.int m,.bl neg,.int n,.int d]∧(VM m∧(0<d∧Sm 8999 d)∧0≤n∧Sm 50000 n)∧Q (.int (BF.wq (BF.md m) neg n d)) H
theorem jN:aD ["mode","negative","n","d","quotient","rest"] ["mode","negative","n","d"] (ay (top 26)):=bz
theorem i3 (ak:Ev K mg C C2 C3):cw P w K mg base "whole_quotient" ["mode","negative","n","d"] 2 (vg K C):=by
 have T:=ak.T;refine bc (ak.df 14) jN qU (qV fun f bw A outer s H Q E hr m neg n d h=>?_);obtain⟨⟨hm,hd,hn,sn⟩,q⟩:=h;have er:n-n/d*d=n%d:=by have:=uW n d;rw[iL] at this;omega
 have r0:=pM n (jz hd.1);have r1:=FT n hd.1;have sq:Sm 50000 (n/d):=sn.le (by
  have h1:=f9 hn (bo hd.1);have h2:n/d≤n:=mj d hn;omega)
 refine⟨_,ah (sv 4 jN.nd (aH ir (pv 2) (pv 3))) (ah (sv 5 jN.nd (aH dn (pv 2) (aH cK (pv 4) (pv 3)))) (ah (aS (cy (PW.pt (dk (b8 bp (pv 5) (al)) (dR (i0 (aQ (pf (zR ak) hr (aa (pv 0) (aa (pv 1) (aa (iB bp (aH jG (pv 4) (al)) (al)) (aa (aH cK (al) (pv 5)) (aa (pv 3) (ae))))))))))))) (aj (aq (pv 4))) (aB)) (aj (aq (aH bX (pv 4) (al)))))),aR rfl rfl (bJ rfl rfl ?c1 (aW rfl rfl rfl (bJ rfl rfl ?c2 (bG rfl rfl ⟨(decide (n%d=0)||!BF.v8 (BF.md m) neg (decide (n/d%2=1)) (2*(n%d)) d),aE rfl rfl rfl rfl (aK (fun h2=>?d1) (fun h2=>aW rfl rfl rfl (bJ rfl rfl (show (0:Int)<2 by decide) (ck rfl rfl rfl (bJ rfl rfl ?c3 (bg rfl (j0 rfl ?p1 (bg rfl ?d2)))))))),aK (fun h1=>bg rfl ⟨aI.refl _,?r1⟩) (fun h1=>bP rfl rfl rfl ⟨aI.refl _,?r2⟩)⟩))))⟩
 case c1=>exact hd
 case c2=>exact⟨sq.mono Ke,hd.2.mono Ke⟩
 case c3=>exact⟨b6 Ke Ke,by rw[er];exact(hd.2.le Kk).mono Ke⟩
 case p1=>exact hm
 case d1=>exact⟨by rw[er] at h2;rw[dv (show n%d=0 from dt h2)];rfl,rfl⟩
 case d2 =>
  refine⟨?_,rfl⟩;rw[er] at h2 ⊢;rw[bS (df h2)];rfl
 case r1 =>
  refine bD q ?_;unfold BF.wq;rw[ao];rw[bR,bj,xG] at h1;exact h1
 case r2 =>
  refine bD q ?_;unfold BF.wq;rw[ag];rw[bR,bj,xG] at h1;exact h1
def wR (K:aP) (C:Addr):Sp:=fun vs H Q _=>∃n d,vs=[.int n,.int d]∧((0<n∧0<d)∧Sm 20000 n∧Sm 20000 d)∧Q (.int (BF.lead n d)) H
theorem i4:aD ["n","d","power","below"] ["n","d"] (ay (top 28)):=bz
theorem yi (ak:Ev K mg C C2 C3):cw P w K mg base "leading_power" ["n","d"] 1 (wR K C):=by
 have T:=ak.T;refine bc (ak.df 16) i4 lu (lx fun f bw A outer s H Q E hr n d h=>?_);obtain⟨⟨h0,sn,sd⟩,q⟩:=h;have b1:=tF sn h0.1;have b2:=tF sd h0.2;refine⟨_,ah (sv 2 i4.nd (aH dn (AE (pv 0)) (AE (pv 1)))) (ah (AH (aS (b8 mx (pv 2) (al)) (aj (sv 3 i4.nd (iB jx (pv 0) (aH dU (pv 1) (pv 2))))) (aj (sv 3 i4.nd (iB jx (aH dU (pv 0) (iD gq (pv 2))) (pv 1)))))) (aj (aq (cZ (b9 (aQ (pv 3)) (aH dn (pv 2) (al)) (pv 2)))))),ax rfl rfl rfl rfl (bG rfl rfl ⟨[some (.int n),some (.int d),some (.int (BF.bl n-BF.bl d)),some (.bl (if 0≤BF.bl n-BF.bl d then decide (n<d*2^(BF.bl n-BF.bl d).toNat) else decide (n*2^(-(BF.bl n-BF.bl d)).toNat<d)))],aE rfl rfl rfl rfl (aK (fun h1=>aW rfl rfl rfl (bJ rfl rfl ?c1 (bG rfl rfl ?e1))) (fun h1=>aW rfl rfl rfl (bJ rfl rfl ?c2 (bP rfl rfl rfl ?e2)))),⟨.int (BF.lead n d),aR rfl rfl (aK (fun h2=>bP rfl rfl rfl ?d1) (fun h2=>bg rfl ?d2)),⟨aI.refl _,?r1⟩⟩⟩)⟩
 case c1 =>
  have:=dt h1;exact⟨this,Kk,sd.mono Ke⟩
 case c2 =>
  have:=df h1;exact⟨Kk,Kk,sn.mono Ke⟩
 case e1=>exact⟨by rw[ao (dt h1)];rfl,rfl⟩
 case e2=>exact⟨by rw[ag (df h1)];rfl,rfl⟩
 case d1=>exact⟨by unfold BF.lead;dsimp only;rw[if_pos h2],rfl⟩
 case d2=>exact⟨by unfold BF.lead;dsimp only;rw[if_neg h2],rfl⟩
 case r1=>exact q
def ub (K:aP) (C:Addr):Sp:=fun vs H Q _=>∃k m neg,vs=[.int k,.int m,.bl neg]∧(VK k∧VM m)∧Q (.int (if (BF.md m).beyond neg=true then BF.bE (BF.fm k) else BF.bE (BF.fm k)-1)) H
theorem uc:aD ["kind","mode","negative"] ["kind","mode","negative"] (ay (top 30)):=bz
theorem vh (ak:Ev K mg C C2 C3):cw P w K mg base "beyond_greatest" ["kind","mode","negative"] 2 (ub K C):=by
 have T:=ak.T;refine bc (ak.df 18) uc lY (lZ fun f bw A outer s H Q E hr k m neg h=>?_);obtain⟨hp,q⟩:=h;refine⟨_,ah (aS (cy (PW.pt (dk (b8 bp (pv 1) (aG T.wL rfl)) (dR (b8 bp (pv 1) (cZ (b9 (aQ (pv 2)) (aG T.UP rfl) (aG T.Fw rfl)))))))) (aj (aq (aH dn (pf (cF ak) hr (aa (pv 0) (ae))) (al)))) (aB)) (aj (aq (pf (cF ak) hr (aa (pv 0) (ae))))),⟨(!(BF.md m).beyond neg),aE rfl rfl rfl rfl (aK (fun h2=>?d1) (fun h2=>bg rfl ⟨.int (if neg=true then 2 else 1),aR rfl rfl (aK (fun h3=>?d2) (fun h3=>?d3)),ck rfl rfl rfl ?d4⟩)),aK (fun h1=>cP rfl rfl ?p1 (bG rfl rfl ⟨aI.refl _,?r1⟩)) (fun h1=>cP rfl rfl ?p2 ⟨aI.refl _,?r2⟩)⟩⟩
 case d1=>exact⟨by rw[dt h2];rfl,rfl⟩
 case d2=>exact⟨by rw[ao h3],rfl⟩
 case d3=>exact⟨by rw[ag h3],rfl⟩
 case d4 =>
  refine⟨?_,rfl⟩;rcases BF.wz hp.2.1 hp.2.2 with rfl | rfl | rfl | rfl | rfl
  ·cases neg<;>rfl
  ·cases neg<;>rfl
  ·cases neg<;>rfl
  ·exact absurd rfl (df h2)
  ·cases neg<;>rfl
 case p1=>exact hp.1
 case p2=>exact hp.1
 case r1 =>
  refine bD q ?_;rw[xG] at h1;rw[h1,ag Ke]
 case r2 =>
  refine bD q ?_;rw[xG] at h1;rw[IU _ |>.mp h1,ao rfl]
def Jn (K:aP) (C:Addr):Sp:=fun vs H Q _=>∃k m neg n d pw,vs=[.int k,.int m,.bl neg,.int n,.int d,.int pw]∧(VK k∧VM m∧RB n d pw)∧Q (.int (BF.Bs (BF.fm k) (BF.md m) neg n d pw)) H
theorem gU:aD ["kind","mode","negative","n","d","power","fraction_bits","least","unit","shift","count","size"] ["kind","mode","negative","n","d","power"] (ay (top 29)):=bz
theorem mT (ak:Ev K mg C C2 C3):cw P w K mg base "rounded" ["kind","mode","negative","n","d","power"] 3 (Jn K C):=by
 have T:=ak.T;refine bc (ak.df 17) gU QS (QT fun f bw A outer s H Q E hr k m neg n d pw h=>?_);obtain⟨⟨hk,hm,h0,a,b,sn,sd,TY,hbp,hp9⟩,q⟩:=h;have sm:=BF.gM k;have b2:=tF sd h0.2;obtain⟨u,hu⟩:∃u,u=(if BF.az (BF.fm k)>BF.lead n d+pw-((BF.fm k).m:Int) then BF.az (BF.fm k) else BF.lead n d+pw-((BF.fm k).m:Int)):=⟨_,rfl⟩;refine⟨_,ah (aS (b8 bp (pv 3) (al)) (aj (aq (pf (fE ak) hr (aa (pv 0) (aa (pv 2) (aa (al) (ae))))))) (aB)) (ah (sv 6 gU.nd (ib T.e9 rfl (pv 0))) (ah (sv 7 gU.nd (pf (ku ak) hr (aa (pv 0) (ae)))) (ah (sv 8 gU.nd (bW (pT rfl) rfl T.GH boot_max (aa (aH dn (aH bX (pf (yi ak) hr (aa (pv 3) (aa (pv 4) (ae)))) (pv 5)) (pv 6)) (aa (pv 7) (ae))))) (ah (sv 9 gU.nd (aH dn (pv 5) (pv 8))) (ah (AH (aS (b8 mx (pv 9) (al)) (aj (sv 10 gU.nd (pf (i3 ak) hr (aa (pv 1) (aa (pv 2) (aa (aH dU (pv 3) (pv 9)) (aa (pv 4) (ae)))))))) (aj (sv 10 gU.nd (pf (i3 ak) hr (aa (pv 1) (aa (pv 2) (aa (pv 3) (aa (aH dU (pv 4) (iD gq (pv 9))) (ae)))))))))) (ah (sv 11 gU.nd (aH bX (aH dU (aH dn (pv 8) (pv 7)) (pv 6)) (pv 10))) (ah (aS (b8 mx (pv 11) (pf (cF ak) hr (aa (pv 0) (ae)))) (aj (sv 11 gU.nd (pf (vh ak) hr (aa (pv 0) (aa (pv 1) (aa (pv 2) (ae))))))) (aB)) (aj (aq (pf (fE ak) hr (aa (pv 0) (aa (pv 2) (aa (pv 11) (ae)))))))))))))),aE rfl rfl rfl rfl (aK (fun h1=>aR rfl rfl (e7 rfl ?p1 ⟨aI.refl _,?r1⟩)) (fun h1=>bP rfl rfl (uz hk) (cP rfl rfl ?p2 (bx rfl rfl rfl ?p3 rfl (ck rfl rfl rfl (ck rfl rfl rfl ⟨_,_,rfl,br rfl rfl rfl rfl ⟨[some (.int k),some (.int m),some (.bl neg),some (.int n),some (.int d),some (.int pw),some (.int ((BF.fm k).m:Int)),some (.int (BF.az (BF.fm k))),some (.int u),some (.int (pw-u)),some (.int (if 0≤pw-u then BF.wq (BF.md m) neg (n*2^(pw-u).toNat) d else BF.wq (BF.md m) neg n (d*2^(-(pw-u)).toNat))),none],aE rfl rfl rfl rfl (aK (fun h2=>ax rfl rfl rfl rfl (bJ rfl rfl ?c1 (bg rfl (gK rfl ?p4 ?e1)))) (fun h2=>ax rfl rfl rfl rfl (aR rfl rfl (bJ rfl rfl ?c2 (gK rfl ?p5 ?e2))))),bx rfl rfl rfl rfl rfl (bJ rfl rfl ?c3 (bP rfl rfl rfl (aR rfl rfl (eH rfl ?p6 (ck rfl rfl rfl (aK (fun h3=>aW rfl rfl rfl (e7 rfl ?p7 (aW rfl rfl rfl (e7 rfl ?p8 ⟨aI.refl _,?r2⟩)))) (fun h3=>aW rfl rfl rfl (e7 rfl ?p9 ⟨aI.refl _,?r3⟩))))))))⟩⟩))))))⟩
 case p1=>exact hk
 case r1=>exact bD q (by unfold BF.Bs;rw[ao (dt h1)])
 all_goals have n0:0<n:=by have:=df h1;omega
 all_goals have b1:=tF sn n0
 all_goals have lb:=@GN n d
 case p2=>exact hk
 case p3=>exact⟨⟨n0,h0.2⟩,sn.mono Kk,sd.mono Kk⟩
 all_goals have eu:u=max (BF.lead n d+pw-((BF.fm k).m:Int)) (BF.az (BF.fm k)):=by rw[hu];split<;>omega
 case c1 =>
  rw[←hu] at h2 ⊢;have:=dt h2;exact⟨this,Kk,sn.mono Kk⟩
 case p4 =>
  rw[←hu] at h2 ⊢;have:=dt h2;refine⟨hm,⟨h0.2,sd.mono Kk⟩,fH h0.1 (bo (BF.aX _)),(Sm.shl sn).mono Kk⟩
 case e1 =>
  subst hu;exact⟨by rw[ao (dt h2)];rfl,rfl⟩
 case c2 =>
  rw[←hu] at h2 ⊢;have:=df h2;exact⟨Kk,Kk,sd.mono Kk⟩
 case p5 =>
  rw[←hu] at h2 ⊢;have:=df h2;refine⟨hm,⟨pU h0.2 (BF.aX _),(Sm.shl sd).mono Kk⟩,h0.1,sn.mono Kk⟩
 case e2 =>
  subst hu;exact⟨by rw[ag (df h2)];rfl,rfl⟩
 case c3=>exact⟨Kk,Kk,b6 Kk Ke⟩
 case p6=>exact hk
 case p7=>exact⟨hk,hm⟩
 case p8=>exact hk
 case p9=>exact hk
 case r2 =>
  refine bD q ?_;have Oh:=dt h3;unfold BF.Bs;dsimp only;rw[if_neg (df h1),←eu,Int.toNat_natCast] at *;rw[if_pos Oh]
 case r3 =>
  refine bD q ?_;have Oh:=df h3;unfold BF.Bs;dsimp only;rw[if_neg (df h1),←eu,Int.toNat_natCast] at *;rw[if_neg Oh]
end
def Rb (C:Addr):Sp:=fun vs H Q _=>∃p dx n i sg z e,vs=[.ref p,.bl n,.bl i,.bl sg,.int z,.int e]∧H p=some (.ins C dx []) ∧
 ∀H':Hp,H' p=some (.ins C dx (AO ⟨n,i,sg,z,e⟩))→(∀b o,H b=some o→b≠p→H' b=some o)→Q .fV H'
def LD (P:Program) (w:World) (K:aP) (mg:Str→Option Value) (base:Heap) (C:Addr):Prop :=
 ∃f fd,Mk K C f∧jA P w K mg base Bo 1 f fd ["self","nan","infinite","negative","size","power"] (Rb C)∧Binds K fd ["self","nan","infinite","negative","size","power"] []∧mg "Exact"=some (.ref C)
section
variable {P:Program} {w:World} {K:aP} {mg:Str→Option Value} {base:Heap} {C C2 C3:Addr}
theorem Rc:aD ["self","nan","infinite","negative","size","power"] ["self","nan","infinite","negative","size","power"] (ay (inClass (top 32) 0)):=bz
theorem Rf {f:Addr} {fd:FuncData} (c:QX K C) (F:xR K "__init__" "Exact.__init__" (inClass (top 32) 0) f fd) (M:Mk K C f) (hm:mg "Exact"=some (.ref C)) (hb:Binds K fd ["self","nan","infinite","negative","size","power"] []):LD P w K mg base C:=by
 refine⟨f,fd,M,?_,hb,hm⟩;refine F.ok Rc (fun vs H Q E h=>?_) (fun bw A outer s H vs Q E hr h=>?_)
 ·obtain⟨p,dx,n,i,sg,z,e,rfl,_⟩:=h;rfl
 ·obtain⟨p,dx,n,i,sg,z,e,rfl,hp,k⟩:=h;refine⟨_,ah (nO (pv 0) (pv 1) rfl) (ah (nO (pv 0) (pv 2) rfl) (ah (nO (pv 0) (pv 3) rfl) (ah (nO (pv 0) (pv 4) rfl) (aj (nO (pv 0) (pv 5) rfl))))),?_⟩;refine⟨_,rfl,_,rfl,p,C,dx,_,rfl,hp,c.cl,c.nan,(by show 0<1000;decide),?_⟩;refine⟨_,rfl,_,rfl,p,C,dx,_,rfl,aL,c.cl,c.inf,(by show 1<1000;decide),?_⟩;refine⟨_,rfl,_,rfl,p,C,dx,_,rfl,aL,c.cl,c.neg,(by show 2<1000;decide),?_⟩;refine⟨_,rfl,_,rfl,p,C,dx,_,rfl,aL,c.cl,c.size,(by show 3<1000;decide),?_⟩;refine⟨_,rfl,_,rfl,p,C,dx,_,rfl,aL,c.cl,c.power,(by show 4<1000;decide),?_⟩;refine k _ (Eq.trans aL ?_) fun b o e hb=>?_
  ·rfl
  ·rw[b7 hb,b7 hb,b7 hb,b7 hb,b7 hb];exact e
theorem rW (ak:Ev K mg C C2 C3):LD P w K mg base C:=by
 obtain⟨h,X,G⟩:=ak.h;obtain⟨fi,di,ei,Fi⟩:=Ch ak.ex.2;exact Rf ak.T.ex Fi ⟨ak.ex.1.ZH,ei.at_,ei.fn,ak.ex.1.kp⟩ (PySem.W.mg_of X G ak.ex.1.at_) (Fi.binds fun _ _ _ _ _ _ us hl=>match us,hl with | [_,_,_,_,_,_],_=>rfl)
end
def XB (C:Addr) (t:TA):TE:=fun σ H Q=>t σ H fun vs H1=>∃n i sg z e,vs=[.bl n,.bl i,.bl sg,.int z,.int e]∧∀a H',aI H1 H'→eR C H' a ⟨n,i,sg,z,e⟩→Q (.ref a) H'
theorem pC {X:Cx} {C:Addr} {k:Nat} {p pos:Pos} {e:Expr} {es:List Expr} {t:TA} (h:LD X.prog X.w X.K X.mg X.base C) (hr:fk k X.A) (hk:2≤k) (hg:Gl X "Exact") (ha:PA X (e::es) t)
  (he:autoParam (starEach (e::es) X.env=(false,eval e X.env)::starEach es X.env) cW) (gH:autoParam ((backTo pos (starEach es X.env)).any (·.1)=false) cW):PE X (.Call (.Name "Exact" p) (e::es) [] pos) (XB C t):=by
 obtain⟨f,fd,M,F,hb,hm⟩:=h;intro pins s σ H Q I h;refine wpAny_Call_Name_kw (kc I hg hm ?_ Ke);refine PySem.W.callWith_K (h₀:=X.base) I.ok.mod.vG M.kp (dA (ha pos pins s σ H _ I h) fun us s1 ⟨vs,H1,I1,r,q⟩=>⟨I1.qO,?_⟩) he gH;obtain⟨n,i,sg,z,e,rfl,q⟩:=q;exact ET M F (hr.mono hk) hb .nil qd I1 r fun x dx hx hd iY=>⟨x,dx,n,i,sg,z,e,rfl,aL,fun H' h1 h2=>⟨rfl,q x H' (aI.made hx hd h2) ⟨dx,h1⟩⟩⟩
theorem gh {C:Addr} {H:Hp} {a:Addr} {u v:BF.Ex} (h:eR C H a u) (e:u=v):eR C H a v:=e ▸ h
theorem b4 {H:Hp} {a:Addr} {xs ys:List V} (h:H a=some (.lst xs)) (e:xs=ys):H a=some (.lst ys):=e ▸ h
theorem Ck {m:Int} (h:VM m):decide (m=1)=(BF.md m).isDown:=by
 rcases BF.wz h.1 h.2 with rfl | rfl | rfl | rfl | rfl<;>rfl
def EB (u:BF.Ex):Prop:=0≤u.size∧Sm 20000 u.size∧-20000≤u.power∧u.power≤20000
def PB (u:BF.Ex):Prop:=0≤u.size∧Sm 8800 u.size∧-8800≤u.power∧u.power≤9000
theorem PB.eb {u:BF.Ex} (h:PB u):EB u:=⟨h.1,h.2.1.mono Ke,by have:=h.2.2;omega,by have:=h.2.2;omega⟩
theorem PB.rb {u:BF.Ex} (h:PB u):RB u.size 1 u.power:=⟨⟨h.1,Ke⟩,8800,1,h.2.1,by unfold Sm;decide,Ke,by have:=h.2.2.1;omega,by have:=h.2.2.2;omega⟩
section
variable {P:Program} {w:World} {K:aP} {mg:Str→Option Value} {base:Heap} {C C2 C3:Addr}
def Ea (K:aP) (C:Addr):Sp:=fun vs H Q _=>vs=[]∧(True)∧∀a H',aI H H'→eR C H' a (BF.kl)→Q (.ref a) H'
theorem Eb:aD [] [] (ay (top 33)):=bz
theorem kv (ak:Ev K mg C C2 C3):cw P w K mg base "no_number" [] 3 (Ea K C):=by
 have T:=ak.T;refine cQ (ak.df 19) Eb xl0 (el0 fun f bw A outer s H Q E hr h=>?_);obtain⟨hp,q⟩:=h;refine⟨_,aj (aq (pC (rW ak) hr Ke rfl (aa (jL) (aa (jL) (aa (jL) (aa (al) (aa (al) (ae)))))))),⟨_,_,_,_,_,rfl,fun a1 H1 s1 x1=>q _ _ (s1) (gh (x1) ?r1)⟩⟩
 case r1=>rfl
def GO (K:aP) (C:Addr):Sp:=fun vs H Q _=>∃neg,vs=[.bl neg]∧(True)∧∀a H',aI H H'→eR C H' a (BF.rK neg)→Q (.ref a) H'
theorem GP:aD ["negative"] ["negative"] (ay (top 34)):=bz
theorem zi (ak:Ev K mg C C2 C3):cw P w K mg base "infinity" ["negative"] 3 (GO K C):=by
 have T:=ak.T;refine cQ (ak.df 20) GP tZ (ua fun f bw A outer s H Q E hr neg h=>?_);obtain⟨hp,q⟩:=h;refine⟨_,aj (aq (pC (rW ak) hr Ke rfl (aa (jL) (aa (jL) (aa (pv 0) (aa (al) (aa (al) (ae)))))))),bg rfl ⟨_,_,_,_,_,rfl,fun a1 H1 s1 x1=>q _ _ (s1) (gh (x1) ?r1)⟩⟩
 case r1=>rfl
def LG (K:aP) (C:Addr):Sp:=fun vs H Q _=>∃neg z e,vs=[.bl neg,.int z,.int e]∧(True)∧∀a H',aI H H'→eR C H' a (BF.bN neg z e)→Q (.ref a) H'
theorem LH:aD ["negative","size","power"] ["negative","size","power"] (ay (top 35)):=bz
theorem gN (ak:Ev K mg C C2 C3):cw P w K mg base "finite" ["negative","size","power"] 3 (LG K C):=by
 have T:=ak.T;refine cQ (ak.df 21) LH lY (lZ fun f bw A outer s H Q E hr neg z e h=>?_);obtain⟨hp,q⟩:=h;refine⟨_,aj (aq (pC (rW ak) hr Ke rfl (aa (jL) (aa (jL) (aa (pv 0) (aa (pv 1) (aa (pv 2) (ae)))))))),aW rfl rfl rfl ⟨_,_,_,_,_,rfl,fun a1 H1 s1 x1=>q _ _ (s1) (gh (x1) ?r1)⟩⟩
 case r1=>rfl
def Oy (K:aP) (C:Addr):Sp:=fun vs H Q _=>∃z,vs=[.int z]∧(True)∧∀a H',aI H H'→eR C H' a (BF.gJ z)→Q (.ref a) H'
theorem Oz:aD ["z"] ["z"] (ay (top 36)):=bz
theorem rX (ak:Ev K mg C C2 C3):cw P w K mg base "whole" ["z"] 4 (Oy K C):=by
 have T:=ak.T;refine cQ (ak.df 22) Oz tZ (ua fun f bw A outer s H Q E hr z h=>?_);obtain⟨hp,q⟩:=h;refine⟨_,aj (aq (pf (gN ak) hr (aa (iB jx (pv 0) (al)) (aa (bW oS rfl T.Cg boot_abs (aa (pv 0) (ae))) (aa (al) (ae)))))),aE rfl rfl rfl rfl (bg rfl (e7 rfl ?p1 (fun a1 H1 s1 x1=>q _ _ (s1) (gh (x1) ?r1))))⟩
 case p1=>trivial
 case r1 =>
  unfold BF.gJ;congr 1;split<;>omega
def zS (K:aP) (C:Addr):Sp:=fun vs H Q _=>∃k x,vs=[.int k,.int x]∧(VB k x)∧∀a H',aI H H'→eR C H' a (BF.ta (BF.fm k) x)→Q (.ref a) H'
theorem jJ:aD ["kind","bits","negative","size","field"] ["kind","bits"] (ay (top 37)):=bz
theorem bA (ak:Ev K mg C C2 C3):cw P w K mg base "taken_apart" ["kind","bits"] 4 (zS K C):=by
 have T:=ak.T;refine cQ (ak.df 23) jJ lu (lx fun f bw A outer s H Q E hr k x h=>?_);obtain⟨hp,q⟩:=h;have sm:=BF.gM k;have r0:=pM x (jz (show 0<BF.aU (BF.fm k) from BF.aX _));have r1:=FT x (show 0<BF.aU (BF.fm k) from BF.aX _);have hM:=BF.aX (BF.fm k).m;refine⟨_,ah (sv 2 jJ.nd (pf (dX ak) hr (aa (pv 0) (aa (pv 1) (ae))))) (ah (aS (aQ (pf (fz ak) hr (aa (pv 0) (aa (pv 1) (ae))))) (aj (aq (Ra (kv ak) hr))) (aB)) (ah (aS (aQ (pf (gB ak) hr (aa (pv 0) (aa (pv 1) (ae))))) (aj (aq (pf (zi ak) hr (aa (pv 2) (ae))))) (aB)) (ah (sv 3 jJ.nd (pf (fe ak) hr (aa (pv 0) (aa (pv 1) (ae))))) (ah (sv 4 jJ.nd (aH Mn (pv 3) (ib T.e9 rfl (pv 0)))) (ah (aS (b8 bp (pv 4) (al)) (aj (aq (pf (gN ak) hr (aa (pv 2) (aa (pv 3) (aa (pf (ku ak) hr (aa (pv 0) (ae))) (ae))))))) (aB)) (aj (aq (pf (gN ak) hr (aa (pv 2) (aa (aH dn (pv 3) (aH dU (aH dn (pv 4) (al)) (ib T.e9 rfl (pv 0)))) (aa (aH dn (aH bX (pf (ku ak) hr (aa (pv 0) (ae))) (pv 4)) (al)) (ae)))))))))))),br rfl rfl rfl ?p1 (bx rfl rfl rfl ?p2 rfl (aK (fun h1=>⟨rfl,?p3,fun a1 H1 s1 x1=>q _ _ (s1) (gh (x1) ?r1)⟩) (fun h1=>bx rfl rfl rfl ?p4 rfl (aK (fun h2=>cP rfl rfl ?p5 (fun a2 H2 s2 x2=>q _ _ (s2) (gh (x2) ?r2))) (fun h2=>br rfl rfl rfl ?p6 (br rfl rfl rfl (uz hp.1) (bJ rfl rfl ?c1 (aE rfl rfl rfl rfl (aK (fun h3=>aW rfl rfl rfl (eH rfl ?p7 (e7 rfl ?p8 (fun a3 H3 s3 x3=>q _ _ (s3) (gh (x3) ?r3))))) (fun h3=>aW rfl rfl rfl (ck rfl rfl rfl (bG rfl (uz hp.1) (bJ rfl rfl ?c2 (ck rfl rfl rfl (eH rfl ?p9 (bP rfl rfl rfl (bG rfl rfl (e7 rfl ?Cm (fun a4 H4 s4 x4=>q _ _ (s4) (gh (x4) ?r4))))))))))))))))))))⟩
 case p1=>exact hp.1
 case p2=>exact⟨hp.1,hp.2.1⟩
 case p3=>trivial
 case p4=>exact⟨hp.1,hp.2.1⟩
 case p5=>trivial
 case p6=>exact⟨hp.1,hp.2.1⟩
 case p7=>exact hp.1
 case p8=>trivial
 case p9=>exact hp.1
 case Cm=>trivial
 case c1=>show (0:Int)≤((BF.fm k).m:Int);omega
 case c2 =>
  refine⟨Kk,Kk,b6 ?_ Ke⟩;rw[aN];generalize (2:Int)^(BF.fm k).m=M at *;have h5:x%BF.aU (BF.fm k)/M≤x%BF.aU (BF.fm k):=mj M r0;have h6:0≤x%BF.aU (BF.fm k)/M:=f9 r0 Kk;omega
 case r1 =>
  unfold BF.ta;dsimp only;rw[if_pos (dt h1)]
 case r2 =>
  have e:=dt h2;have e1:=df h1;unfold BF.ta;dsimp only;rw[if_neg e1,if_pos e]
 case r3 =>
  have e2:=df h2;have e1:=df h1;have e3:=dt h3;unfold BF.ta;dsimp only;rw[Int.toNat_natCast] at e3;rw[if_neg e1,if_neg e2,if_pos e3]
 case r4 =>
  have e2:=df h2;have e1:=df h1;have e3:=df h3;unfold BF.ta;dsimp only;rw[Int.toNat_natCast] at *;rw[if_neg e1,if_neg e2,if_neg e3]
def LI (K:aP) (C:Addr):Sp:=fun vs H Q _=>∃k m a u,vs=[.int k,.int m,.ref a]∧(eR C H a u)∧(VK k∧VM m∧PB u)∧Q (.int ((BF.fm k).ofKind (BF.md m) u.kind:Nat)) H
theorem LJ:aD ["kind","mode","u"] ["kind","mode","u"] (ay (top 38)):=bz
theorem gg (ak:Ev K mg C C2 C3):cw P w K mg base "packed" ["kind","mode","u"] 4 (LI K C):=by
 have T:=ak.T;refine bc (ak.df 24) LJ qU (qV fun f bw A outer s H Q E hr k m a u h=>?_);obtain⟨o1,hp,q⟩:=h;refine⟨_,ah (aS (aQ (a8 T.ex .nan (pv 2))) (aj (aq (pf (fw ak) hr (aa (pv 0) (ae))))) (aB)) (ah (aS (aQ (a8 T.ex .inf (pv 2))) (aj (aq (pf (fE ak) hr (aa (pv 0) (aa (a8 T.ex .neg (pv 2)) (aa (pf (cF ak) hr (aa (pv 0) (ae))) (ae))))))) (aB)) (aj (aq (pf (mT ak) hr (aa (pv 0) (aa (pv 1) (aa (a8 T.ex .neg (pv 2)) (aa (a8 T.ex .size (pv 2)) (aa (al) (aa (a8 T.ex .power (pv 2)) (ae))))))))))),ax rfl rfl (o1) rfl (aK (fun h1=>cP rfl rfl ?p1 ⟨aI.refl _,?r1⟩) (fun h1=>ax rfl rfl (o1) rfl (aK (fun h2=>ax rfl rfl rfl (o1) (cP rfl rfl ?p2 (e7 rfl ?p3 ⟨aI.refl _,?r2⟩))) (fun h2=>ax rfl rfl rfl rfl (ax (o1) rfl rfl (o1) (aW rfl rfl (o1) ⟨_,_,_,_,_,_,rfl,?p4,⟨aI.refl _,?r3⟩⟩))))))⟩
 case p1=>exact hp.1
 case p2=>exact hp.1
 case p3=>exact hp.1
 case p4=>exact⟨hp.1,hp.2.1,hp.2.2.rb⟩
 case r1=>exact bD q (by rw[BF.fJ h1];exact(BF.dN _).symm)
 case r2=>exact bD q (by rw[BF.cU (aV _ |>.mp h1) h2];exact(BF.lU _ _).symm)
 case r3=>exact bD q (BF.TF _ (BF.dm k) _ (aV _ |>.mp h1) (aV _ |>.mp h2) hp.2.2.1).symm
def Jo (K:aP) (C:Addr):Sp:=fun vs H Q _=>∃a u,vs=[.ref a]∧(eR C H a u)∧(True)∧∀a H',aI H H'→eR C H' a (BF.Bz u)→Q (.ref a) H'
theorem Jp:aD ["u"] ["u"] (ay (top 39)):=bz
theorem LK (ak:Ev K mg C C2 C3):cw P w K mg base "negated" ["u"] 3 (Jo K C):=by
 have T:=ak.T;refine cQ (ak.df 25) Jp lu (lx fun f bw A outer s H Q E hr a u h=>?_);obtain⟨o1,hp,q⟩:=h;refine⟨_,aj (aq (pC (rW ak) hr Ke rfl (aa (a8 T.ex .nan (pv 0)) (aa (a8 T.ex .inf (pv 0)) (aa (pQ (a8 T.ex .neg (pv 0))) (aa (a8 T.ex .size (pv 0)) (aa (a8 T.ex .power (pv 0)) (ae)))))))),ax rfl rfl (o1) rfl (ax rfl (o1) rfl rfl (ax (o1) rfl rfl rfl (ax (o1) rfl rfl (o1) ⟨_,_,_,_,_,rfl,fun a1 H1 s1 x1=>q _ _ (s1) (gh (x1) ?r1)⟩)))⟩
 case r1=>rfl
def zT (K:aP) (C:Addr):Sp:=fun vs H Q _=>∃a u k,vs=[.ref a,.int k]∧(eR C H a u)∧(True)∧∀a H',aI H H'→eR C H' a (BF.fY u k)→Q (.ref a) H'
theorem zU:aD ["u","k"] ["u","k"] (ay (top 40)):=bz
theorem mU (ak:Ev K mg C C2 C3):cw P w K mg base "times_power" ["u","k"] 3 (zT K C):=by
 have T:=ak.T;refine cQ (ak.df 26) zU lY (lZ fun f bw A outer s H Q E hr a u k h=>?_);obtain⟨o1,hp,q⟩:=h;refine⟨_,aj (aq (pC (rW ak) hr Ke rfl (aa (a8 T.ex .nan (pv 0)) (aa (a8 T.ex .inf (pv 0)) (aa (a8 T.ex .neg (pv 0)) (aa (a8 T.ex .size (pv 0)) (aa (aH bX (a8 T.ex .power (pv 0)) (pv 1)) (ae)))))))),ax rfl rfl (o1) rfl (ax rfl (o1) rfl rfl (ax (o1) rfl rfl (o1) (ax rfl rfl (o1) rfl (bG rfl rfl ⟨_,_,_,_,_,rfl,fun a1 H1 s1 x1=>q _ _ (s1) (gh (x1) ?r1)⟩))))⟩
 case r1=>rfl
def Cn (K:aP) (C:Addr):Sp:=fun vs H Q _=>∃a u,vs=[.ref a]∧(eR C H a u)∧(True)∧Q (.bl (BF.bC u)) H
theorem Co:aD ["u"] ["u"] (ay (top 41)):=bz
theorem fP (ak:Ev K mg C C2 C3):cw P w K mg base "is_nothing" ["u"] 1 (Cn K C):=by
 have T:=ak.T;refine bc (ak.df 27) Co lu (lx fun f bw A outer s H Q E hr a u h=>?_);obtain⟨o1,hp,q⟩:=h;refine⟨_,aj (aq (cZ (lP (pQ (a8 T.ex .nan (pv 0))) (lP (pQ (a8 T.ex .inf (pv 0))) (jj (iB bp (a8 T.ex .size (pv 0)) (al))))))),⟨.bl (BF.bC u),ax rfl rfl (o1) rfl (bg rfl (aK (fun h2=>ax rfl rfl (o1) rfl (bg rfl (aK (fun h1=>aW rfl rfl (o1) (bG rfl rfl ?d1)) (fun h1=>?d2)))) (fun h2=>?d3))),⟨aI.refl _,?r1⟩⟩⟩
 case d1=>exact⟨by unfold BF.bC;rw[h2,h1];rfl,rfl⟩
 case d2=>exact⟨by unfold BF.bC;rw[h2,aV _ |>.mp h1];rfl,rfl⟩
 case d3=>exact⟨by unfold BF.bC;rw[aV _ |>.mp h2];rfl,rfl⟩
 case r1=>exact q
def OA (K:aP) (C:Addr):Sp:=fun vs H Q _=>∃a u b v,vs=[.ref a,.ref b]∧(eR C H a u)∧(eR C H b v)∧(EB u∧EB v)∧∀a H',aI H H'→eR C H' a (BF.gu u v)→Q (.ref a) H'
theorem Fx:aD ["u","v","negative"] ["u","v"] (ay (top 42)):=bz
theorem Cp (ak:Ev K mg C C2 C3):cw P w K mg base "times" ["u","v"] 4 (OA K C):=by
 have T:=ak.T;refine cQ (ak.df 28) Fx qU (qV fun f bw A outer s H Q E hr a u b v h=>?_);obtain⟨o1,o2,hp,q⟩:=h;refine⟨_,ah (aS (cy (PW.pt (dk (aQ (a8 T.ex .nan (pv 0))) (dR (aQ (a8 T.ex .nan (pv 1))))))) (aj (aq (Ra (kv ak) hr))) (aB)) (ah (sv 2 Fx.nd (iB AJ (a8 T.ex .neg (pv 0)) (a8 T.ex .neg (pv 1)))) (ah (aS (cy (PW.pt (dk (aQ (a8 T.ex .inf (pv 0))) (dR (aQ (a8 T.ex .inf (pv 1))))))) (aj (aq (b9 (cy (PW.pt (dk (aQ (pf (fP ak) hr (aa (pv 0) (ae)))) (dR (aQ (pf (fP ak) hr (aa (pv 1) (ae)))))))) (Ra (kv ak) hr) (pf (zi ak) hr (aa (pv 2) (ae)))))) (aB)) (aj (aq (pf (gN ak) hr (aa (pv 2) (aa (aH cK (a8 T.ex .size (pv 0)) (a8 T.ex .size (pv 1))) (aa (aH bX (a8 T.ex .power (pv 0)) (a8 T.ex .power (pv 1))) (ae))))))))),⟨(u.nan||v.nan),ax rfl rfl (o1) rfl (aK (fun h2=>?d1) (fun h2=>ax rfl rfl (o2) rfl ?d2)),aK (fun h1=>⟨rfl,?p1,fun a1 H1 s1 x1=>q _ _ (s1) (gh (x1) ?r1)⟩) (fun h1=>ax rfl rfl (o1) rfl (br rfl (o2) rfl rfl ⟨(u.inf||v.inf),ax rfl rfl (o1) rfl (aK (fun h4=>?d3) (fun h4=>ax rfl rfl (o2) rfl ?d4)),aK (fun h3=>⟨(BF.bC u||BF.bC v),eK rfl rfl (o1) ?p2 (bg rfl (aK (fun h6=>?d5) (fun h6=>eK rfl rfl (o2) ?p3 (bg rfl ?d6)))),aK (fun h5=>⟨rfl,?p4,fun a2 H2 s2 x2=>q _ _ (s2) (gh (x2) ?r2)⟩) (fun h5=>cP rfl rfl ?p5 (fun a3 H3 s3 x3=>q _ _ (s3) (gh (x3) ?r3)))⟩) (fun h3=>ax rfl rfl rfl (o1) (aW rfl rfl (o2) (bJ rfl rfl ?c1 (ax rfl rfl (o1) rfl (br rfl (o2) rfl rfl (e7 rfl ?p6 (fun a4 H4 s4 x4=>q _ _ (s4) (gh (x4) ?r4))))))))⟩))⟩⟩
 case d1=>exact⟨by rw[h2];rfl,rfl⟩
 case d2=>exact⟨by rw[aV _ |>.mp h2];rfl,rfl⟩
 case p1=>trivial
 case r1=>unfold BF.gu;rw[ao h1]
 case d3=>exact⟨by rw[h4];rfl,rfl⟩
 case d4=>exact⟨by rw[aV _ |>.mp h4];rfl,rfl⟩
 case d5=>exact⟨by rw[h6];rfl,rfl⟩
 case d6=>exact⟨by rw[aV _ |>.mp h6];rfl,rfl⟩
 case p2=>trivial
 case p3=>trivial
 case p4=>trivial
 case p5=>trivial
 case p6=>trivial
 case c1=>exact⟨hp.1.2.1.mono Ke,hp.2.2.1.mono Ke⟩
 case r2=>unfold BF.gu;rw[ag h1,ao h3,ao h5]
 case r3=>unfold BF.gu;rw[ag h1,ao h3,ag h5]
 case r4=>unfold BF.gu;rw[ag h1,ag h3]
def Jq (K:aP) (C:Addr):Sp:=fun vs H Q _=>∃a u p,vs=[.ref a,.int p]∧(eR C H a u)∧(EB u∧p≤u.power∧-20000≤p)∧Q (.int (BF.cnt u p)) H
theorem zj:aD ["u","power","count"] ["u","power"] (ay (top 44)):=bz
theorem qw (ak:Ev K mg C C2 C3):cw P w K mg base "counted" ["u","power"] 1 (Jq K C):=by
 have T:=ak.T;refine bc (ak.df 30) zj lY (lZ fun f bw A outer s H Q E hr a u p h=>?_);obtain⟨o1,hp,q⟩:=h;refine⟨_,ah (sv 2 zj.nd (aH dU (a8 T.ex .size (pv 0)) (aH dn (a8 T.ex .power (pv 0)) (pv 1)))) (aj (aq (cZ (b9 (aQ (a8 T.ex .neg (pv 0))) (iD gq (pv 2)) (pv 2))))),ax rfl rfl (o1) rfl (aW rfl (o1) rfl (bG rfl rfl (bJ rfl rfl ?c1 ⟨.int (BF.cnt u p),ax rfl rfl (o1) rfl (aK (fun h1=>aR rfl rfl ?d1) (fun h1=>bg rfl ?d2)),⟨aI.refl _,?r1⟩⟩)))⟩
 case c1 =>
  have:=hp.1.2.2;exact⟨Kk,Kk,hp.1.2.1.mono Ke⟩
 case d1=>exact⟨by unfold BF.cnt BF.eJ;rw[ao h1],rfl⟩
 case d2=>exact⟨by unfold BF.cnt BF.eJ;rw[ag h1],rfl⟩
 case r1=>exact q
def Rh (K:aP) (C:Addr):Sp:=fun vs H Q _=>∃a u b v m,vs=[.ref a,.ref b,.int m]∧(eR C H a u)∧(eR C H b v)∧(EB u∧EB v∧VM m)∧∀a H',aI H H'→eR C H' a (BF.cG (BF.md m) u v)→Q (.ref a) H'
theorem wU:aD ["u","v","mode","power","total","negative"] ["u","v","mode"] (ay (top 43)):=bz
theorem wV (ak:Ev K mg C C2 C3):cw P w K mg base "plus" ["u","v","mode"] 4 (Rh K C):=by
 have T:=ak.T;refine cQ (ak.df 29) wU B5 (B6 fun f bw A outer s H Q E hr a u b v m h=>?_);obtain⟨o1,o2,hp,q⟩:=h;have emin:(if v.power<u.power then v.power else u.power)=min u.power v.power:=by split<;>omega
 refine⟨_,ah (aS (cy (PW.pt (dk (aQ (a8 T.ex .nan (pv 0))) (dR (aQ (a8 T.ex .nan (pv 1))))))) (aj (aq (Ra (kv ak) hr))) (aB)) (ah (aS (cy (PW.pt (kf (aQ (a8 T.ex .inf (pv 0))) (kf (aQ (a8 T.ex .inf (pv 1))) (ke (b8 AJ (a8 T.ex .neg (pv 0)) (a8 T.ex .neg (pv 1)))))))) (aj (aq (Ra (kv ak) hr))) (aB)) (ah (aS (cy (PW.pt (dk (aQ (a8 T.ex .inf (pv 0))) (dR (aQ (a8 T.ex .inf (pv 1))))))) (aj (aq (b9 (aQ (a8 T.ex .inf (pv 0))) (pv 0) (pv 1)))) (aB)) (ah (sv 3 wU.nd (bW (uG rfl) rfl T.Ls boot_min (aa (a8 T.ex .power (pv 0)) (aa (a8 T.ex .power (pv 1)) (ae))))) (ah (sv 4 wU.nd (aH bX (pf (qw ak) hr (aa (pv 0) (aa (pv 3) (ae)))) (pf (qw ak) hr (aa (pv 1) (aa (pv 3) (ae)))))) (ah (aS (b8 bp (pv 4) (al)) (ah (sv 5 wU.nd (cZ (b9 (b8 GC (a8 T.ex .neg (pv 0)) (a8 T.ex .neg (pv 1))) (a8 T.ex .neg (pv 0)) (iB bp (pv 2) (aG T.Fw rfl))))) (aj (aq (pf (gN ak) hr (aa (pv 5) (aa (al) (aa (pv 3) (ae)))))))) (aB)) (aj (aq (pf (gN ak) hr (aa (iB jx (pv 4) (al)) (aa (bW oS rfl T.Cg boot_abs (aa (pv 4) (ae))) (aa (pv 3) (ae)))))))))))),⟨(u.nan||v.nan),ax rfl rfl (o1) rfl (aK (fun h2=>?d1) (fun h2=>ax rfl rfl (o2) rfl ?d2)),aK (fun h1=>⟨rfl,?p1,fun a1 H1 s1 x1=>q _ _ (s1) (gh (x1) ?r1)⟩) (fun h1=>⟨(u.inf&&v.inf&&(u.neg != v.neg)),ax rfl rfl (o1) rfl (aK (fun h4=>ax rfl rfl (o2) rfl (aK (fun h5=>ax rfl rfl (o1) rfl (bx rfl (o2) rfl rfl rfl ?d3)) (fun h5=>?d4))) (fun h4=>?d5)),aK (fun h3=>⟨rfl,?p2,fun a2 H2 s2 x2=>q _ _ (s2) (gh (x2) ?r2)⟩) (fun h3=>⟨(u.inf||v.inf),ax rfl rfl (o1) rfl (aK (fun h7=>?d6) (fun h7=>ax rfl rfl (o2) rfl ?d7)),aK (fun h6=>ax rfl rfl (o1) rfl (aK (fun h8=>bg rfl (q _ _ (aI.refl _) (gh (o1) ?r3))) (fun h8=>bg rfl (q _ _ (aI.refl _) (gh (o2) ?r4))))) (fun h6=>ax rfl rfl (o1) rfl (aR rfl (o2) ⟨_,_,rfl,aR rfl rfl (jt rfl (o1) ?p3 (aR rfl rfl (jt rfl (o2) ?p4 (bG rfl rfl (aE rfl rfl rfl rfl (aK (fun h9=>⟨.bl (if u.neg=v.neg then u.neg else (BF.md m).isDown),ax rfl rfl (o1) rfl (bx rfl (o2) rfl rfl rfl (aK (fun tW=>aW rfl rfl (o1) ?d8) (fun tW=>bP rfl rfl rfl ?d9))),aR rfl rfl (e7 rfl ?p5 (fun a3 H3 s3 x3=>q _ _ (s3) (gh (x3) ?r5)))⟩) (fun h9=>aE rfl rfl rfl rfl (aR rfl rfl (e7 rfl ?p6 (fun a4 H4 s4 x4=>q _ _ (s4) (gh (x4) ?r6)))))))))))⟩))⟩)⟩)⟩⟩
 case d1=>exact⟨by rw[h2];rfl,rfl⟩
 case d2=>exact⟨by rw[aV _ |>.mp h2];rfl,rfl⟩
 case p1=>trivial
 case p2=>trivial
 case r1=>unfold BF.cG;rw[ao h1]
 case d3=>exact⟨by rw[h4,h5];rfl,rfl⟩
 case d4=>exact⟨by rw[h4,aV _ |>.mp h5];rfl,rfl⟩
 case d5=>exact⟨by rw[aV _ |>.mp h4];rfl,rfl⟩
 case r2=>unfold BF.cG;rw[ag h1,ao h3]
 case d6=>exact⟨by rw[h7];rfl,rfl⟩
 case d7=>exact⟨by rw[aV _ |>.mp h7];rfl,rfl⟩
 case r3=>unfold BF.cG;rw[ag h1,ag h3,ao h6,ao h8]
 case r4=>unfold BF.cG;rw[ag h1,ag h3,ao h6,ag h8]
 all_goals rw[emin] at *
 case p3=>have:=hp.1.2.2;have:=hp.2.1.2.2;exact⟨hp.1,Kk,Kk⟩
 case p4=>have:=hp.1.2.2;have:=hp.2.1.2.2;exact⟨hp.2.1,Kk,Kk⟩
 case d8=>exact⟨by rw[ao (dF.mp tW)],rfl⟩
 case d9=>exact⟨by rw[ag (fun z=>tW (dF.mpr z)),←Ck hp.2.2],rfl⟩
 case p5=>trivial
 case p6=>trivial
 case r5 =>
  unfold BF.cG;dsimp only;rw[if_neg h1,if_neg h3,if_neg h6,if_pos (dt h9)]
 case r6 =>
  unfold BF.cG;dsimp only;rw[if_neg h1,if_neg h3,if_neg h6,if_neg (df h9)];congr 1;split<;>omega
def Cq (K:aP) (C:Addr):Sp:=fun vs H Q _=>∃a u m,vs=[.ref a,.int m]∧(eR C H a u)∧(VM m∧PB u)∧Q (.int (BF.dq (BF.md m) u)) H
theorem Cr:aD ["u","mode"] ["u","mode"] (ay (top 45)):=bz
theorem uA (ak:Ev K mg C C2 C3):cw P w K mg base "whole_size" ["u","mode"] 3 (Cq K C):=by
 have T:=ak.T;refine bc (ak.df 31) Cr lY (lZ fun f bw A outer s H Q E hr a u m h=>?_);obtain⟨o1,hp,q⟩:=h;refine⟨_,ah (aS (b8 mx (a8 T.ex .power (pv 0)) (al)) (aj (aq (aH dU (a8 T.ex .size (pv 0)) (a8 T.ex .power (pv 0))))) (aB)) (aj (aq (pf (i3 ak) hr (aa (pv 1) (aa (a8 T.ex .neg (pv 0)) (aa (a8 T.ex .size (pv 0)) (aa (aH dU (al) (iD gq (a8 T.ex .power (pv 0)))) (ae)))))))),aW rfl rfl (o1) (ck rfl rfl rfl (aK (fun h1=>ax rfl rfl (o1) rfl (aR rfl (o1) (bJ rfl rfl ?c1 ⟨aI.refl _,?r1⟩))) (fun h1=>ax rfl rfl rfl (o1) (ax rfl rfl (o1) rfl (aW rfl (o1) rfl (bJ rfl rfl ?c2 (gK rfl ?p1 ⟨aI.refl _,?r2⟩)))))))⟩
 case c1 =>
  have:=dt h1;have:=hp.2.2.2;exact⟨Kk,Kk,hp.2.2.1.mono Ke⟩
 case r1=>exact bD q (by unfold BF.dq;rw[ao (dt h1)])
 case c2 =>
  have:=df h1;have:=hp.2.2.2;exact⟨Kk,Kk,b6 Ke Ke⟩
 case p1 =>
  have:=df h1;have:=hp.2.2.2;rw[de];refine⟨hp.1,⟨BF.aX _,?_⟩,hp.2.1,hp.2.2.1.mono Ke⟩;have:=Sm.shl (a:=1) (k:=(-u.power).toNat) (z:=1) (by unfold Sm;decide);rw[de] at this;exact this.mono Kk
 case r2=>exact bD q (by unfold BF.dq;rw[ag (df h1),de])
def zV (K:aP) (C:Addr):Sp:=fun vs H Q _=>∃a u m,vs=[.ref a,.int m]∧(eR C H a u)∧(VM m∧PB u)∧Q (.int (BF.eJ u.neg (BF.dq (BF.md m) u))) H
theorem qK:aD ["u","mode","size"] ["u","mode"] (ay (top 46)):=bz
theorem rY (ak:Ev K mg C C2 C3):cw P w K mg base "whole_value" ["u","mode"] 4 (zV K C):=by
 have T:=ak.T;refine bc (ak.df 32) qK lY (lZ fun f bw A outer s H Q E hr a u m h=>?_);obtain⟨o1,hp,q⟩:=h;refine⟨_,ah (sv 2 qK.nd (pf (uA ak) hr (aa (pv 0) (aa (pv 1) (ae))))) (aj (aq (cZ (b9 (aQ (a8 T.ex .neg (pv 0))) (iD gq (pv 2)) (pv 2))))),aR rfl rfl (jt rfl (o1) ?p1 ⟨.int (BF.eJ u.neg (BF.dq (BF.md m) u)),ax rfl rfl (o1) rfl (aK (fun h1=>aR rfl rfl ?d1) (fun h1=>bg rfl ?d2)),⟨aI.refl _,?r1⟩⟩)⟩
 case p1=>exact hp
 case d1=>exact⟨by unfold BF.eJ;rw[ao h1],rfl⟩
 case d2=>exact⟨by unfold BF.eJ;rw[ag h1],rfl⟩
 case r1=>exact q
def wW (K:aP) (C:Addr):Sp:=fun vs H Q _=>∃a u,vs=[.ref a]∧(eR C H a u)∧(PB u)∧Q (.int (BF.eJ u.neg (BF.dq .near u))) H
theorem wX:aD ["u"] ["u"] (ay (top 47)):=bz
theorem pD (ak:Ev K mg C C2 C3):cw P w K mg base "nearest_whole" ["u"] 5 (wW K C):=by
 have T:=ak.T;refine bc (ak.df 33) wX lu (lx fun f bw A outer s H Q E hr a u h=>?_);obtain⟨o1,hp,q⟩:=h;refine⟨_,aj (aq (pf (rY ak) hr (aa (pv 0) (aa (aG T.e8 rfl) (ae))))),bg rfl (jt rfl (o1) ?p1 ⟨aI.refl _,?r1⟩)⟩
 case p1=>exact⟨⟨Ke,Ke⟩,hp⟩
 case r1=>exact q
end
set_option smartUnfolding true
def Wd (lo hi:Int) (sz:Nat) (u:BF.Ex):Prop:=0≤u.size∧Sm sz u.size∧lo≤u.power∧u.power≤hi
theorem Wd.pb {lo hi:Int} {sz:Nat} {u:BF.Ex} (h:Wd lo hi sz u) (h1:sz≤8800) (h2:-8800≤lo) (h3:hi≤9000):PB u:=⟨h.1,h.2.1.mono h1,by have:=h.2.2;omega,by have:=h.2.2;omega⟩
theorem Wd.eb {lo hi:Int} {sz:Nat} {u:BF.Ex} (h:Wd lo hi sz u) (h1:sz≤20000) (h2:-20000≤lo) (h3:hi≤20000):EB u:=⟨h.1,h.2.1.mono h1,by have:=h.2.2;omega,by have:=h.2.2;omega⟩
theorem Wd.mono {lo hi lo' hi':Int} {sz sz':Nat} {u:BF.Ex} (h:Wd lo hi sz u) (h1:sz≤sz') (h2:lo'≤lo) (h3:hi≤hi'):Wd lo' hi' sz' u:=⟨h.1,h.2.1.mono h1,by have:=h.2.2;omega,by have:=h.2.2;omega⟩
theorem Ri {n:Nat} {z:Int} (h0:0≤z) (h:z<2^n):Sm n z:=by
 unfold Sm;have:=BF.bO n;omega
theorem mV {n:Nat}:Sm n 0:=cV n
theorem cM {k x:Int} (h:VB k x):Wd (-1074) 2047 53 (BF.ta (BF.fm k) x):=by
 have sm:=BF.gM k;have ⟨a,b⟩:=BF.gj (BF.fm k) x h.2.1;have c:(2:Int)^((BF.fm k).m+1)≤2^53:=BF.gP Kk;have hS:0<BF.aU (BF.fm k):=BF.aX _;have x0:=Int.emod_nonneg x (Int.ne_of_gt hS);have x1:=Int.emod_lt_of_pos x hS;have hM:=BF.aX (BF.fm k).m;refine⟨a,Ri a Kk,?_⟩;unfold BF.ta;dsimp only;generalize x%BF.aU (BF.fm k)=X at *;have f0:0≤X/2^(BF.fm k).m:=Int.ediv_nonneg x0 (Int.le_of_lt hM);have f1:X/2^(BF.fm k).m<2048:=by
  refine Int.ediv_lt_of_lt_mul hM ?_;unfold BF.aU at x1;rw[jk] at x1;have c2:(2:Int)^(BF.fm k).e≤2^11:=BF.gP Kk;have:(2:Int)^(BF.fm k).e*2^(BF.fm k).m≤2^11*2^(BF.fm k).m:=i6 c2 (bo hM);omega
 split
 ·exact⟨Ke,Ke⟩
 ·split
  ·exact⟨by show (-1074:Int)≤0;decide,by show (0:Int)≤2047;decide⟩
  ·split
   ·simp only[BF.bN];omega
   ·simp only[BF.bN];omega
theorem tG {l1 h1 l2 h2:Int} {s1 s2:Nat} {u v:BF.Ex} (hu:Wd l1 h1 s1 u) (hv:Wd l2 h2 s2 v) (hl:l1+l2≤0) (hh:0≤h1+h2):Wd (l1+l2) (h1+h2) (s1+s2) (BF.gu u v):=by
 unfold BF.gu;split
 ·exact⟨Ke,mV,by show _≤(0:Int);omega,by show (0:Int)≤_;omega⟩
 ·split
  ·split
   ·exact⟨Ke,mV,by show _≤(0:Int);omega,by show (0:Int)≤_;omega⟩
   ·exact⟨by show (0:Int)≤0;decide,mV,by show _≤(0:Int);omega,by show (0:Int)≤_;omega⟩
  ·have a:=hu.2.2;have b:=hv.2.2;exact⟨fH hu.1 hv.1,Sm.mul hu.2.1 hv.2.1,by show _≤u.power+v.power;omega,by show u.power+v.power≤_;omega⟩
theorem AL {lo hi:Int} {sz:Nat} {u:BF.Ex} (hu:Wd lo hi sz u) {p:Int} (h1:lo≤p) (h2:p≤u.power):Sm (sz+(hi-lo).toNat) (BF.cnt u p):=by
 have a:Sm (sz+(u.power-p).toNat) (u.size*2^(u.power-p).toNat):=Sm.shl hu.2.1;have b:Sm (sz+(hi-lo).toNat) (u.size*2^(u.power-p).toNat):=a.mono (by have:=hu.2.2;omega);unfold BF.cnt BF.eJ;split
 ·exact b.neg
 ·exact b
theorem wY {lo hi:Int} {sz:Nat} {m:Lw.Mode} {u v:BF.Ex} (hu:Wd lo hi sz u) (hv:Wd lo hi sz v) (hl:lo≤0) (hh:0≤hi):Wd lo hi (sz+(hi-lo).toNat+1) (BF.cG m u v):=by
 have a:=hu.2.2;have b:=hv.2.2;unfold BF.cG;split
 ·exact⟨Ke,mV,by show _≤(0:Int);omega,by show (0:Int)≤_;omega⟩
 ·split
  ·exact⟨Ke,mV,by show _≤(0:Int);omega,by show (0:Int)≤_;omega⟩
  ·split
   ·split
    ·exact hu.mono Kk Kk Kk
    ·exact hv.mono Kk Kk Kk
   ·dsimp only;split
    ·exact⟨by show (0:Int)≤0;decide,mV,by show _≤min u.power v.power;omega,by show min u.power v.power≤_;omega⟩
    ·refine⟨by show (0:Int)≤((_:Nat):Int);omega,?_,by show _≤min u.power v.power;omega,by show min u.power v.power≤_;omega⟩;have c:=Sm.add (AL hu (p:=min u.power v.power) Kk Kk) (AL hv (p:=min u.power v.power) Kk Kk);exact c.le (by show (((_:Nat):Int)).natAbs≤_;omega)
theorem bY {k:Int} {X:Nat} (h:VB k (X:Int)):X<2*(BF.fm k).sign:=by
 have:=BF.dY (BF.fm k);have:=h.2.2;omega
theorem iw {k:Int} (hk:VK k) {x:Nat} (h:x<2*(BF.fm k).sign):VB k (x:Int):=by
 have:=BF.dY (BF.fm k);exact⟨hk,Kk,Kk⟩
theorem Uo {k:Int} (hk:VK k) {x:Nat} (h:BF.Out (BF.fm k) x):VB k (x:Int):=iw hk (BF.eA (BF.dm k) h)
theorem size_pos {u:BF.Ex} (hu:0≤u.size) (h:u.nan=false) (h2:u.inf=false) (h3:BF.bC u=false):0<u.size:=by
 unfold BF.bC at h3;rw[h,h2] at h3;have:¬u.size=0:=fun z=>by rw[z] at h3;exact absurd h3 Ke
 omega
theorem zk {u v:BF.Ex} (hu:Wd (-1074) 2047 53 u) (hv:Wd (-1074) 2047 53 v) (v0:0<v.size):Sm 3174 ((BF.cnt u (min u.power v.power)).natAbs:Int)∧Sm 3174 ((BF.cnt v (min u.power v.power)).natAbs:Int) ∧
  0<((BF.cnt v (min u.power v.power)).natAbs:Int)∧Sm 3200 (BF.wq .near false ((BF.cnt u (min u.power v.power)).natAbs:Int) ((BF.cnt v (min u.power v.power)).natAbs:Int)):=by
 have pu:=hu.2.2;have pv':=hv.2.2;have cu:=AL hu (p:=min u.power v.power) Kk Kk;have cv:=AL hv (p:=min u.power v.power) Kk Kk;have dp:0<((BF.cnt v (min u.power v.power)).natAbs:Int):=by rw[(BF.o9 Kk (bo v0)).2];exact pU v0 (BF.aX _)
 have n0:0≤((BF.cnt u (min u.power v.power)).natAbs:Int):=by omega
 have sn:Sm 3174 ((BF.cnt u (min u.power v.power)).natAbs:Int):=cu.le Kk;refine⟨sn,cv.le Kk,dp,?_⟩;have q1:=mj ((BF.cnt v (min u.power v.power)).natAbs:Int) n0;have q0:=f9 n0 (bo dp);rcases BF.xU .near false ((BF.cnt u (min u.power v.power)).natAbs:Int) ((BF.cnt v (min u.power v.power)).natAbs:Int) with e | ⟨e,_⟩
 ·rw[e];exact(sn.le Kk).mono Ke
 ·rw[e];exact(Sm.add (sn.le (show _≤_ by omega)) (show Sm 3174 1 from b6 Ke Ke)).mono Ke
theorem Rj {u v:BF.Ex} (hu:Wd (-1074) 2047 53 u) (hv:Wd (-1074) 2047 53 v) (v0:0<v.size):PB (BF.rM u v):=by
 have ⟨a,b,c,d⟩:=zk hu hv v0;have pu:=hu.2.2;have pv':=hv.2.2;have e:Sm 6375 (((BF.cnt u (min u.power v.power)).natAbs:Int)-((BF.cnt v (min u.power v.power)).natAbs:Int)*BF.wq .near false ((BF.cnt u (min u.power v.power)).natAbs:Int) ((BF.cnt v (min u.power v.power)).natAbs:Int)):=by
  rw[Int.sub_eq_add_neg];exact Sm.add (a.mono Ke) (Sm.mul b d).neg
 unfold BF.rM;dsimp only;split
 ·next z=>exact⟨by show (0:Int)≤-_;omega,(Sm.neg e).mono Ke,by show -8800≤min u.power v.power;omega,by show min u.power v.power≤9000;omega⟩
 ·next z=>exact⟨by show (0:Int)≤_-_;omega,e.mono Ke,by show -8800≤min u.power v.power;omega,by show min u.power v.power≤9000;omega⟩
theorem XC {m:Lw.Mode} {u:BF.Ex} (h:Wd (-1074) 2047 53 u):Sm 2101 (BF.dq m u):=by
 unfold BF.dq;split
 ·exact(Sm.shl h.2.1).mono (by have:=h.2.2;omega)
 ·rcases BF.xU m u.neg u.size (2^(-u.power).toNat) with e | ⟨e,_⟩
  ·rw[e];have a:=mj (2^(-u.power).toNat) h.1;have b:=f9 h.1 (bo (BF.aX (-u.power).toNat));exact(h.2.1.mono Ke).le Kk
  ·rw[e];have a:=mj (2^(-u.power).toNat) h.1;have b:=f9 h.1 (bo (BF.aX (-u.power).toNat));have c:Sm 53 (u.size/2^(-u.power).toNat):=h.2.1.le Kk;exact(Sm.add c (show Sm 53 1 by unfold Sm;decide)).mono Ke
section
variable {P:Program} {w:World} {K:aP} {mg:Str→Option Value} {base:Heap} {C C2 C3:Addr}
def OB (K:aP) (C:Addr):Sp:=fun vs H Q _=>∃k m x y,vs=[.int k,.int m,.int x,.int y]∧(VM m∧VB k x∧VB k y)∧Q (.int ((BF.fm k).add (BF.md m) x.toNat y.toNat:Nat)) H
theorem OC:aD ["kind","mode","a","b"] ["kind","mode","a","b"] (ay (top 53)):=bz
theorem wZ (ak:Ev K mg C C2 C3):cw P w K mg base "added" ["kind","mode","a","b"] 5 (OB K C):=by
 have T:=ak.T;refine bc (ak.df 35) OC qU (qV fun f bw A outer s H Q E hr k m x y h=>?_);obtain⟨⟨hm,hx,hy⟩,q⟩:=h;obtain⟨X,rfl⟩:=aA hx.2.1;obtain⟨Y,rfl⟩:=aA hy.2.1;refine⟨_,aj (aq (pf (gg ak) hr (aa (pv 0) (aa (pv 1) (aa (pf (wV ak) hr (aa (pf (bA ak) hr (aa (pv 0) (aa (pv 2) (ae)))) (aa (pf (bA ak) hr (aa (pv 0) (aa (pv 3) (ae)))) (aa (pv 1) (ae))))) (ae)))))),ax rfl rfl rfl rfl (bG rfl ?p1 (fun a1 H1 s1 x1=>br rfl rfl rfl ?p2 (fun a2 H2 s2 x2=>bg rfl (j0 rfl ((x1).same s2) ⟨(x2),?p3,fun a3 H3 s3 x3=>gk rfl (x3) ?p4 ⟨((s1).trans s2).trans s3,?r1⟩⟩))))⟩
 case p1=>exact hx
 case p2=>exact hy
 case p3=>exact⟨(cM hx).eb Ke Ke Ke,(cM hy).eb Ke Ke Ke,hm⟩
 case p4=>exact⟨hx.1,hm,(wY (cM hx) (cM hy) Ke Ke).pb Ke Ke Ke⟩
 case r1=>exact bD q (a7 _ (BF.add_eq _ _ (bY hx) (bY hy)))
def Ct (K:aP) (C:Addr):Sp:=fun vs H Q _=>∃k m x y,vs=[.int k,.int m,.int x,.int y]∧(VM m∧VB k x∧VB k y)∧Q (.int ((BF.fm k).sub (BF.md m) x.toNat y.toNat:Nat)) H
theorem Cu:aD ["kind","mode","a","b"] ["kind","mode","a","b"] (ay (top 54)):=bz
theorem oA (ak:Ev K mg C C2 C3):cw P w K mg base "subtracted" ["kind","mode","a","b"] 5 (Ct K C):=by
 have T:=ak.T;refine bc (ak.df 36) Cu qU (qV fun f bw A outer s H Q E hr k m x y h=>?_);obtain⟨⟨hm,hx,hy⟩,q⟩:=h;obtain⟨X,rfl⟩:=aA hx.2.1;obtain⟨Y,rfl⟩:=aA hy.2.1;refine⟨_,aj (aq (pf (gg ak) hr (aa (pv 0) (aa (pv 1) (aa (pf (wV ak) hr (aa (pf (bA ak) hr (aa (pv 0) (aa (pv 2) (ae)))) (aa (pf (LK ak) hr (aa (pf (bA ak) hr (aa (pv 0) (aa (pv 3) (ae)))) (ae))) (aa (pv 1) (ae))))) (ae)))))),ax rfl rfl rfl rfl (bG rfl ?p1 (fun a1 H1 s1 x1=>br rfl rfl rfl ?p2 (fun a2 H2 s2 x2=>bJ rfl (x2) ?p3 (fun a3 H3 s3 x3=>bg rfl (j0 rfl (((x1).same s2).same s3) ⟨(x3),?p4,fun a4 H4 s4 x4=>gk rfl (x4) ?p5 ⟨(((s1).trans s2).trans s3).trans s4,?r1⟩⟩)))))⟩
 case p1=>exact hx
 case p2=>exact hy
 case p3=>trivial
 case p4=>exact⟨(cM hx).eb Ke Ke Ke,(show Wd _ _ _ (BF.Bz (BF.ta (BF.fm k) Y)) from cM hy).eb Ke Ke Ke,hm⟩
 case p5=>exact⟨hx.1,hm,(wY (cM hx) (show Wd _ _ _ (BF.Bz (BF.ta (BF.fm k) Y)) from cM hy) Ke Ke).pb Ke Ke Ke⟩
 case r1=>exact bD q (a7 _ (BF.sub_eq _ _ (bY hx) (bY hy)))
def Cv (K:aP) (C:Addr):Sp:=fun vs H Q _=>∃k m x y,vs=[.int k,.int m,.int x,.int y]∧(VM m∧VB k x∧VB k y)∧Q (.int ((BF.fm k).mul (BF.md m) x.toNat y.toNat:Nat)) H
theorem Cw:aD ["kind","mode","a","b"] ["kind","mode","a","b"] (ay (top 55)):=bz
theorem jF (ak:Ev K mg C C2 C3):cw P w K mg base "multiplied" ["kind","mode","a","b"] 5 (Cv K C):=by
 have T:=ak.T;refine bc (ak.df 37) Cw qU (qV fun f bw A outer s H Q E hr k m x y h=>?_);obtain⟨⟨hm,hx,hy⟩,q⟩:=h;obtain⟨X,rfl⟩:=aA hx.2.1;obtain⟨Y,rfl⟩:=aA hy.2.1;refine⟨_,aj (aq (pf (gg ak) hr (aa (pv 0) (aa (pv 1) (aa (pf (Cp ak) hr (aa (pf (bA ak) hr (aa (pv 0) (aa (pv 2) (ae)))) (aa (pf (bA ak) hr (aa (pv 0) (aa (pv 3) (ae)))) (ae)))) (ae)))))),ax rfl rfl rfl rfl (bG rfl ?p1 (fun a1 H1 s1 x1=>br rfl rfl rfl ?p2 (fun a2 H2 s2 x2=>iq rfl ((x1).same s2) (x2) ?p3 (fun a3 H3 s3 x3=>gk rfl (x3) ?p4 ⟨((s1).trans s2).trans s3,?r1⟩))))⟩
 case p1=>exact hx
 case p2=>exact hy
 case p3=>exact⟨(cM hx).eb Ke Ke Ke,(cM hy).eb Ke Ke Ke⟩
 case p4=>exact⟨hx.1,hm,(tG (cM hx) (cM hy) Ke Ke).pb Ke Ke Ke⟩
 case r1=>exact bD q (a7 _ (BF.mul_eq _ _ (bY hx) (bY hy)))
def OD (K:aP) (C:Addr):Sp:=fun vs H Q _=>∃k m x y z,vs=[.int k,.int m,.int x,.int y,.int z]∧(VM m∧VB k x∧VB k y∧VB k z)∧Q (.int ((BF.fm k).fma (BF.md m) x.toNat y.toNat z.toNat:Nat)) H
theorem Fz:aD ["kind","mode","a","b","c","product"] ["kind","mode","a","b","c"] (ay (top 64)):=bz
theorem rZ (ak:Ev K mg C C2 C3):cw P w K mg base "fused" ["kind","mode","a","b","c"] 5 (OD K C):=by
 have T:=ak.T;refine bc (ak.df 46) Fz B5 (B6 fun f bw A outer s H Q E hr k m x y z h=>?_);obtain⟨⟨hm,hx,hy,hz⟩,q⟩:=h;obtain⟨X,rfl⟩:=aA hx.2.1;obtain⟨Y,rfl⟩:=aA hy.2.1;obtain⟨Z,rfl⟩:=aA hz.2.1;refine⟨_,ah (sv 5 Fz.nd (pf (Cp ak) hr (aa (pf (bA ak) hr (aa (pv 0) (aa (pv 2) (ae)))) (aa (pf (bA ak) hr (aa (pv 0) (aa (pv 3) (ae)))) (ae))))) (aj (aq (pf (gg ak) hr (aa (pv 0) (aa (pv 1) (aa (pf (wV ak) hr (aa (pv 5) (aa (pf (bA ak) hr (aa (pv 0) (aa (pv 4) (ae)))) (aa (pv 1) (ae))))) (ae))))))),br rfl rfl rfl ?p1 (fun a1 H1 s1 x1=>br rfl rfl rfl ?p2 (fun a2 H2 s2 x2=>iq rfl ((x1).same s2) (x2) ?p3 (fun a3 H3 s3 x3=>ax rfl rfl rfl rfl (bP rfl rfl ?p4 (fun a4 H4 s4 x4=>bg rfl (j0 rfl ((x3).same s4) ⟨(x4),?p5,fun a5 H5 s5 x5=>gk rfl (x5) ?p6 ⟨((((s1).trans s2).trans s3).trans s4).trans s5,?r1⟩⟩))))))⟩
 case p1=>exact hx
 case p2=>exact hy
 case p3=>exact⟨(cM hx).eb Ke Ke Ke,(cM hy).eb Ke Ke Ke⟩
 case p4=>exact hz
 case p5=>exact⟨(tG (cM hx) (cM hy) Ke Ke).eb Ke Ke Ke,(cM hz).eb Ke Ke Ke,hm⟩
 case p6=>exact⟨hx.1,hm,(wY (tG (cM hx) (cM hy) Ke Ke) ((cM hz).mono Ke Ke Ke) Ke Ke).pb Ke Ke Ke⟩
 case r1=>exact bD q (a7 _ (BF.TH _ _ (bY hx) (bY hy) (bY hz)))
def LL (K:aP) (C:Addr):Sp:=fun vs H Q _=>∃k m x e,vs=[.int k,.int m,.int x,.int e]∧(VM m∧VB k x∧-5000≤e∧e≤5000)∧Q (.int ((BF.fm k).scale (BF.md m) x.toNat e:Nat)) H
theorem LM:aD ["kind","mode","a","k"] ["kind","mode","a","k"] (ay (top 65)):=bz
theorem yj (ak:Ev K mg C C2 C3):cw P w K mg base "scaled" ["kind","mode","a","k"] 5 (LL K C):=by
 have T:=ak.T;refine bc (ak.df 47) LM qU (qV fun f bw A outer s H Q E hr k m x e h=>?_);obtain⟨⟨hm,hx,he⟩,q⟩:=h;obtain⟨X,rfl⟩:=aA hx.2.1;refine⟨_,aj (aq (pf (gg ak) hr (aa (pv 0) (aa (pv 1) (aa (pf (mU ak) hr (aa (pf (bA ak) hr (aa (pv 0) (aa (pv 2) (ae)))) (aa (pv 3) (ae)))) (ae)))))),ax rfl rfl rfl rfl (bG rfl ?p1 (fun a1 H1 s1 x1=>bg rfl (jt rfl (x1) ?p2 (fun a2 H2 s2 x2=>gk rfl (x2) ?p3 ⟨(s1).trans s2,?r1⟩))))⟩
 case p1=>exact hx
 case p2=>trivial
 case p3 =>
  have h:=cM hx;exact⟨hx.1,hm,h.1,h.2.1.mono Ke,by have:=h.2.2;show -8800≤(BF.ta (BF.fm k) X).power+e;omega,by have:=h.2.2;show (BF.ta (BF.fm k) X).power+e≤9000;omega⟩
 case r1=>exact bD q (a7 _ (BF.NR _ _ _ (bY hx)))
def Ec (K:aP) (C:Addr):Sp:=fun vs H Q _=>∃j k m x,vs=[.int j,.int k,.int m,.int x]∧(VM m∧VK k∧VB j x)∧Q (.int ((BF.fm j).to (BF.fm k) (BF.md m) x.toNat:Nat)) H
theorem Ed:aD ["from_kind","to_kind","mode","a"] ["from_kind","to_kind","mode","a"] (ay (top 66)):=bz
theorem l0 (ak:Ev K mg C C2 C3):cw P w K mg base "converted" ["from_kind","to_kind","mode","a"] 5 (Ec K C):=by
 have T:=ak.T;refine bc (ak.df 48) Ed qU (qV fun f bw A outer s H Q E hr j k m x h=>?_);obtain⟨⟨hm,hk,hx⟩,q⟩:=h;obtain⟨X,rfl⟩:=aA hx.2.1;refine⟨_,aj (aq (pf (gg ak) hr (aa (pv 1) (aa (pv 2) (aa (pf (bA ak) hr (aa (pv 0) (aa (pv 3) (ae)))) (ae)))))),ax rfl rfl rfl rfl (bG rfl ?p1 (fun a1 H1 s1 x1=>gk rfl (x1) ?p2 ⟨s1,?r1⟩))⟩
 case p1=>exact hx
 case p2=>exact⟨hk,hm,(cM hx).pb Ke Ke Ke⟩
 case r1=>exact bD q (a7 _ (BF.Qo _ _ _ (bY hx)))
def Cy (K:aP) (C:Addr):Sp:=fun vs H Q _=>∃k m z,vs=[.int k,.int m,.int z]∧(VM m∧VK k∧Sm 1000 z)∧Q (.int ((BF.fm k).ofInt (BF.md m) z:Nat)) H
theorem Cz:aD ["kind","mode","z"] ["kind","mode","z"] (ay (top 68)):=bz
theorem Ee (ak:Ev K mg C C2 C3):cw P w K mg base "from_whole" ["kind","mode","z"] 5 (Cy K C):=by
 have T:=ak.T;refine bc (ak.df 50) Cz lY (lZ fun f bw A outer s H Q E hr k m z h=>?_);obtain⟨⟨hm,hk,hz⟩,q⟩:=h;refine⟨_,aj (aq (pf (gg ak) hr (aa (pv 0) (aa (pv 1) (aa (pf (rX ak) hr (aa (pv 2) (ae))) (ae)))))),aW rfl rfl rfl (eH rfl ?p1 (fun a1 H1 s1 x1=>gk rfl (x1) ?p2 ⟨s1,?r1⟩))⟩
 case p1=>trivial
 case p2=>exact⟨hk,hm,by show (0:Int)≤((_:Nat):Int);omega,(hz.mono Ke).le (by show (((_:Nat):Int)).natAbs≤_;omega),by show (-8800:Int)≤0;decide,by show (0:Int)≤9000;decide⟩
 case r1=>exact bD q (a7 _ (BF.Fc _ _ _))
def Jr (K:aP) (C:Addr):Sp:=fun vs H Q _=>∃k m x y,vs=[.int k,.int m,.int x,.int y]∧(VM m∧VB k x∧VB k y)∧Q (.int ((BF.fm k).div (BF.md m) x.toNat y.toNat:Nat)) H
theorem oa:aD ["kind","mode","a","b","u","v","negative"] ["kind","mode","a","b"] (ay (top 56)):=bz
theorem CA (ak:Ev K mg C C2 C3):cw P w K mg base "divided" ["kind","mode","a","b"] 5 (Jr K C):=by
 have T:=ak.T;refine bc (ak.df 38) oa qU (qV fun f bw A outer s H Q E hr k m x y h=>?_);obtain⟨⟨hm,hx,hy⟩,q⟩:=h;obtain⟨X,rfl⟩:=aA hx.2.1;obtain⟨Y,rfl⟩:=aA hy.2.1;have hu:=cM hx;have hv:=cM hy;refine⟨_,ah (sv 4 oa.nd (pf (bA ak) hr (aa (pv 0) (aa (pv 2) (ae))))) (ah (sv 5 oa.nd (pf (bA ak) hr (aa (pv 0) (aa (pv 3) (ae))))) (ah (sv 6 oa.nd (iB AJ (a8 T.ex .neg (pv 4)) (a8 T.ex .neg (pv 5)))) (ah (aS (cy (PW.pt (dk (aQ (a8 T.ex .nan (pv 4))) (dk (aQ (a8 T.ex .nan (pv 5))) (dk (PW.pt (kf (aQ (a8 T.ex .inf (pv 4))) (ke (aQ (a8 T.ex .inf (pv 5)))))) (dR (PW.pt (kf (aQ (pf (fP ak) hr (aa (pv 4) (ae)))) (ke (aQ (pf (fP ak) hr (aa (pv 5) (ae))))))))))))) (aj (aq (pf (fw ak) hr (aa (pv 0) (ae))))) (aB)) (ah (aS (cy (PW.pt (dk (aQ (a8 T.ex .inf (pv 4))) (dR (aQ (pf (fP ak) hr (aa (pv 5) (ae)))))))) (aj (aq (pf (fE ak) hr (aa (pv 0) (aa (pv 6) (aa (pf (cF ak) hr (aa (pv 0) (ae))) (ae))))))) (aB)) (ah (aS (aQ (a8 T.ex .inf (pv 5))) (aj (aq (pf (fE ak) hr (aa (pv 0) (aa (pv 6) (aa (al) (ae))))))) (aB)) (aj (aq (pf (mT ak) hr (aa (pv 0) (aa (pv 1) (aa (pv 6) (aa (a8 T.ex .size (pv 4)) (aa (a8 T.ex .size (pv 5)) (aa (aH dn (a8 T.ex .power (pv 4)) (a8 T.ex .power (pv 5))) (ae))))))))))))))),br rfl rfl rfl ?p1 (fun a1 H1 s1 x1=>br rfl rfl rfl ?p2 (fun a2 H2 s2 x2=>ax rfl rfl ((x1).same s2) rfl (br rfl (x2) rfl rfl ⟨((BF.ta (BF.fm k) X).nan||(BF.ta (BF.fm k) Y).nan||((BF.ta (BF.fm k) X).inf&&(BF.ta (BF.fm k) Y).inf)||(BF.bC (BF.ta (BF.fm k) X)&&BF.bC (BF.ta (BF.fm k) Y))),ax rfl rfl ((x1).same s2) rfl (aK (fun h2=>?d1) (fun h2=>ax rfl rfl (x2) rfl (aK (fun h3=>?d2) (fun h3=>ax rfl rfl ((x1).same s2) rfl (aK (fun h5=>ax rfl rfl (x2) rfl (aK (fun h4=>?d3) (fun h4=>eK rfl rfl ((x1).same s2) ?p3 (bg rfl (aK (fun h6=>eK rfl rfl (x2) ?p4 (bg rfl ?d4)) (fun h6=>?d5)))))) (fun h5=>aK (fun h4=>?d6) (fun h4=>eK rfl rfl ((x1).same s2) ?p5 (bg rfl (aK (fun h7=>eK rfl rfl (x2) ?p6 (bg rfl ?d7)) (fun h7=>?d8)))))))))),aK (fun h1=>cP rfl rfl ?p7 ⟨(s1).trans s2,?r1⟩) (fun h1=>⟨((BF.ta (BF.fm k) X).inf||BF.bC (BF.ta (BF.fm k) Y)),ax rfl rfl ((x1).same s2) rfl (aK (fun h9=>?d9) (fun h9=>eK rfl rfl (x2) ?p8 (bg rfl ?I0))),aK (fun h8=>aW rfl rfl rfl (eH rfl ?p9 (e7 rfl ?Cm ⟨(s1).trans s2,?r2⟩))) (fun h8=>ax rfl rfl (x2) rfl (aK (fun tW=>aR rfl rfl (e7 rfl ?Ef ⟨(s1).trans s2,?r3⟩)) (fun tW=>ax rfl rfl rfl rfl (ax rfl ((x1).same s2) rfl rfl (ax (x2) rfl rfl ((x1).same s2) (aW rfl rfl (x2) (bG rfl rfl ⟨_,_,_,_,_,_,rfl,?CB,⟨(s1).trans s2,?r4⟩⟩)))))))⟩)⟩)))⟩
 all_goals try trivial
 all_goals try exact hx
 all_goals try exact hx.1
 all_goals try exact hy
 all_goals try (refine⟨?_,rfl⟩;simp[*])
 all_goals try (refine bD q ?_;rw[aN,aN,BF.div_eq _ (BF.dm k) _ (bY hx) (bY hy)];unfold BF.Qr)
 case r1=>rw[ao (by assumption)]
 case r2=>rw[ag (by assumption),ao (by assumption)]
 case r3=>rw[ag (by assumption),ag (by assumption),ao (by assumption)]
 case r4=>rw[ag (by assumption),ag (by assumption),ag (by assumption)]
 case CB=>exact⟨hx.1,hm,⟨hu.1,size_pos hv.1 (by simp_all) (by simp_all) (by simp_all)⟩,53,53,hu.2.1,hv.2.1,Ke,by have:=hu.2.2;have:=hv.2.2;omega,by have:=hu.2.2;have:=hv.2.2;omega⟩
def OE (K:aP) (C:Addr):Sp:=fun vs H Q _=>∃k x,vs=[.int k,.int x]∧(VB k x)∧Q (.int (BF.place (BF.fm k) x)) H
theorem FA:aD ["kind","a","size"] ["kind","a"] (ay (top 69)):=bz
theorem iQ (ak:Ev K mg C C2 C3):cw P w K mg base "place" ["kind","a"] 3 (OE K C):=by
 have T:=ak.T;refine bc (ak.df 51) FA lu (lx fun f bw A outer s H Q E hr k x h=>?_);obtain⟨hp,q⟩:=h;refine⟨_,ah (sv 2 FA.nd (pf (fe ak) hr (aa (pv 0) (aa (pv 1) (ae))))) (ah (aS (b8 eY (pv 2) (pf (cF ak) hr (aa (pv 0) (ae)))) (aj (aq (aH bX (pf (cF ak) hr (aa (pv 0) (ae))) (al)))) (aB)) (aj (aq (cZ (b9 (aQ (pf (dX ak) hr (aa (pv 0) (aa (pv 1) (ae))))) (aH dn (iD gq (pv 2)) (al)) (pv 2)))))),br rfl rfl rfl ?p1 (aR rfl rfl (eH rfl ?p2 (ck rfl rfl rfl (aK (fun h1=>cP rfl rfl ?p3 (bG rfl rfl ⟨aI.refl _,?r1⟩)) (fun h1=>⟨.int (BF.place (BF.fm k) x),bx rfl rfl rfl ?p4 rfl (aK (fun h2=>br rfl rfl rfl rfl ?d1) (fun h2=>bg rfl ?d2)),⟨aI.refl _,?r2⟩⟩)))))⟩
 case p1=>exact⟨hp.1,hp.2.1⟩
 case p2=>exact hp.1
 case p3=>exact hp.1
 case p4=>exact hp.1
 case r1=>exact bD q (by unfold BF.place;rw[ao (dt h1)])
 case d1=>exact⟨by unfold BF.place;rw[ag (df h1),ao (dt h2)],rfl⟩
 case d2=>exact⟨by unfold BF.place;rw[ag (df h1),ag (df h2)],rfl⟩
 case r2=>exact q
def CC (K:aP) (C:Addr):Sp:=fun vs H Q _=>∃k x y,vs=[.int k,.int x,.int y]∧(VB k x∧VB k y)∧Q (.int (if BF.cp (BF.fm k) x=false then x else if BF.cp (BF.fm k) y=true then BF.nT (BF.fm k) else y)) H
theorem CD:aD ["kind","a","b"] ["kind","a","b"] (ay (top 61)):=bz
theorem uB (ak:Ev K mg C C2 C3):cw P w K mg base "the_number" ["kind","a","b"] 4 (CC K C):=by
 have T:=ak.T;refine bc (ak.df 43) CD lY (lZ fun f bw A outer s H Q E hr k x y h=>?_);obtain⟨hp,q⟩:=h;refine⟨_,ah (aS (i0 (aQ (pf (fz ak) hr (aa (pv 0) (aa (pv 1) (ae)))))) (aj (aq (pv 1))) (aB)) (aj (aq (cZ (b9 (aQ (pf (fz ak) hr (aa (pv 0) (aa (pv 2) (ae))))) (pf (fw ak) hr (aa (pv 0) (ae))) (pv 2))))),bx rfl rfl rfl ?p1 rfl (aK (fun h1=>bg rfl ⟨aI.refl _,?r1⟩) (fun h1=>⟨.int (if BF.cp (BF.fm k) x=false then x else if BF.cp (BF.fm k) y=true then BF.nT (BF.fm k) else y),bx rfl rfl rfl ?p2 rfl (aK (fun h2=>cP rfl rfl ?p3 ?d1) (fun h2=>bg rfl ?d2)),⟨aI.refl _,?r2⟩⟩))⟩
 case p1=>exact⟨hp.1.1,hp.1.2.1⟩
 case p2=>exact⟨hp.1.1,hp.2.2.1⟩
 case p3=>exact hp.1.1
 case r1=>exact bD q (by rw[ao (by simpa using h1)])
 case d1=>exact⟨by rw[ag (by simpa using h1),ao h2],rfl⟩
 case d2=>exact⟨by rw[ag (by simpa using h1),ag h2],rfl⟩
 case r2=>exact q
def LN (K:aP) (C:Addr):Sp:=fun vs H Q _=>∃k x y,vs=[.int k,.int x,.int y]∧(VB k x∧VB k y)∧Q (.int ((BF.fm k).min x.toNat y.toNat:Nat)) H
theorem LO:aD ["kind","a","b"] ["kind","a","b"] (ay (top 59)):=bz
theorem OF (ak:Ev K mg C C2 C3):cw P w K mg base "lesser" ["kind","a","b"] 5 (LN K C):=by
 have T:=ak.T;refine bc (ak.df 41) LO lY (lZ fun f bw A outer s H Q E hr k x y h=>?_);obtain⟨⟨hx,hy⟩,q⟩:=h;obtain⟨X,rfl⟩:=aA hx.2.1;obtain⟨Y,rfl⟩:=aA hy.2.1;refine⟨_,ah (aS (cy (PW.pt (dk (aQ (pf (fz ak) hr (aa (pv 0) (aa (pv 1) (ae))))) (dR (aQ (pf (fz ak) hr (aa (pv 0) (aa (pv 2) (ae))))))))) (aj (aq (pf (uB ak) hr (aa (pv 0) (aa (pv 1) (aa (pv 2) (ae))))))) (aB)) (aj (aq (cZ (b9 (b8 A0 (pf (iQ ak) hr (aa (pv 0) (aa (pv 1) (ae)))) (pf (iQ ak) hr (aa (pv 0) (aa (pv 2) (ae))))) (pv 1) (pv 2))))),⟨(BF.cp (BF.fm k) X||BF.cp (BF.fm k) Y),bx rfl rfl rfl ?p1 rfl (aK (fun h2=>?d1) (fun h2=>bx rfl rfl rfl ?p2 rfl ?d2)),aK (fun h1=>aW rfl rfl rfl (e7 rfl ?p3 ⟨aI.refl _,?r1⟩)) (fun h1=>⟨.int (if BF.place (BF.fm k) X≤BF.place (BF.fm k) Y then (X:Int) else Y),bx rfl rfl rfl ?p4 rfl (bP rfl rfl ?p5 (ck rfl rfl rfl (aK (fun h3=>bg rfl ?d3) (fun h3=>bg rfl ?d4)))),⟨aI.refl _,?r2⟩⟩)⟩⟩
 case p1=>exact⟨hx.1,hx.2.1⟩
 case p2=>exact⟨hx.1,hy.2.1⟩
 case p3=>exact⟨hx,hy⟩
 case p4=>exact hx
 case p5=>exact hy
 case d1=>exact⟨by rw[h2];rfl,rfl⟩
 case d2=>exact⟨by rw[aV _ |>.mp h2];rfl,rfl⟩
 case r1 =>
  refine bD q ?_;rw[aN,aN,BF.BE _ (BF.dm k) (bY hx) (bY hy),ao h1];split
  ·rfl
  ·split
   ·exact(BF.dN _).symm
   ·rfl
 case d3=>exact⟨by rw[ao (dt h3)],rfl⟩
 case d4=>exact⟨by rw[ag (df h3)],rfl⟩
 case r2 =>
  refine bD q ?_;rw[aN,aN,BF.BE _ (BF.dm k) (bY hx) (bY hy),ag h1];split<;>rfl
def Js (K:aP) (C:Addr):Sp:=fun vs H Q _=>∃k x y,vs=[.int k,.int x,.int y]∧(VB k x∧VB k y)∧Q (.int ((BF.fm k).max x.toNat y.toNat:Nat)) H
theorem Jt:aD ["kind","a","b"] ["kind","a","b"] (ay (top 60)):=bz
theorem LP (ak:Ev K mg C C2 C3):cw P w K mg base "greater" ["kind","a","b"] 5 (Js K C):=by
 have T:=ak.T;refine bc (ak.df 42) Jt lY (lZ fun f bw A outer s H Q E hr k x y h=>?_);obtain⟨⟨hx,hy⟩,q⟩:=h;obtain⟨X,rfl⟩:=aA hx.2.1;obtain⟨Y,rfl⟩:=aA hy.2.1;refine⟨_,ah (aS (cy (PW.pt (dk (aQ (pf (fz ak) hr (aa (pv 0) (aa (pv 1) (ae))))) (dR (aQ (pf (fz ak) hr (aa (pv 0) (aa (pv 2) (ae))))))))) (aj (aq (pf (uB ak) hr (aa (pv 0) (aa (pv 1) (aa (pv 2) (ae))))))) (aB)) (aj (aq (cZ (b9 (b8 mx (pf (iQ ak) hr (aa (pv 0) (aa (pv 1) (ae)))) (pf (iQ ak) hr (aa (pv 0) (aa (pv 2) (ae))))) (pv 1) (pv 2))))),⟨(BF.cp (BF.fm k) X||BF.cp (BF.fm k) Y),bx rfl rfl rfl ?p1 rfl (aK (fun h2=>?d1) (fun h2=>bx rfl rfl rfl ?p2 rfl ?d2)),aK (fun h1=>aW rfl rfl rfl (e7 rfl ?p3 ⟨aI.refl _,?r1⟩)) (fun h1=>⟨.int (if BF.place (BF.fm k) Y≤BF.place (BF.fm k) X then (X:Int) else Y),bx rfl rfl rfl ?p4 rfl (bP rfl rfl ?p5 (ck rfl rfl rfl (aK (fun h3=>bg rfl ?d3) (fun h3=>bg rfl ?d4)))),⟨aI.refl _,?r2⟩⟩)⟩⟩
 case p1=>exact⟨hx.1,hx.2.1⟩
 case p2=>exact⟨hx.1,hy.2.1⟩
 case p3=>exact⟨hx,hy⟩
 case p4=>exact hx
 case p5=>exact hy
 case d1=>exact⟨by rw[h2];rfl,rfl⟩
 case d2=>exact⟨by rw[aV _ |>.mp h2];rfl,rfl⟩
 case r1 =>
  refine bD q ?_;rw[aN,aN,BF.yR _ (BF.dm k) (bY hx) (bY hy),ao h1];split
  ·rfl
  ·split
   ·exact(BF.dN _).symm
   ·rfl
 case d3=>exact⟨by rw[ao (dt h3)],rfl⟩
 case d4=>exact⟨by rw[ag (df h3)],rfl⟩
 case r2 =>
  refine bD q ?_;rw[aN,aN,BF.yR _ (BF.dm k) (bY hx) (bY hy),ag h1];split<;>rfl
def LQ (K:aP) (C:Addr):Sp:=fun vs H Q _=>∃k x neg,vs=[.int k,.int x,.bl neg]∧(VB k x)∧Q (.int (BF.ij (BF.fm k) x neg)) H
theorem LR:aD ["kind","a","negative"] ["kind","a","negative"] (ay (top 62)):=bz
theorem tH (ak:Ev K mg C C2 C3):cw P w K mg base "signed" ["kind","a","negative"] 4 (LQ K C):=by
 have T:=ak.T;refine bc (ak.df 44) LR lY (lZ fun f bw A outer s H Q E hr k x neg h=>?_);obtain⟨hp,q⟩:=h;refine⟨_,ah (aS (aQ (pf (fz ak) hr (aa (pv 0) (aa (pv 1) (ae))))) (aj (aq (pf (fw ak) hr (aa (pv 0) (ae))))) (aB)) (aj (aq (pf (fE ak) hr (aa (pv 0) (aa (pv 2) (aa (pf (fe ak) hr (aa (pv 0) (aa (pv 1) (ae)))) (ae))))))),bx rfl rfl rfl ?p1 rfl (aK (fun h1=>cP rfl rfl ?p2 ⟨aI.refl _,?r1⟩) (fun h1=>ax rfl rfl rfl rfl (bG rfl ?p3 (e7 rfl ?p4 ⟨aI.refl _,?r2⟩))))⟩
 case p1=>exact⟨hp.1,hp.2.1⟩
 case p2=>exact hp.1
 case p3=>exact⟨hp.1,hp.2.1⟩
 case p4=>exact hp.1
 case r1=>exact bD q (by unfold BF.ij;rw[ao h1])
 case r2=>exact bD q (by unfold BF.ij;rw[ag h1])
def yk (K:aP) (C:Addr):Sp:=fun vs H Q _=>∃k m x,vs=[.int k,.int m,.int x]∧(VM m∧VB k x)∧Q (.int ((BF.fm k).toWhole (BF.md m) x.toNat:Nat)) H
theorem pE:aD ["kind","mode","a","u"] ["kind","mode","a"] (ay (top 63)):=bz
theorem zW (ak:Ev K mg C C2 C3):cw P w K mg base "whole_number" ["kind","mode","a"] 5 (yk K C):=by
 have T:=ak.T;refine bc (ak.df 45) pE lY (lZ fun f bw A outer s H Q E hr k m x h=>?_);obtain⟨⟨hm,hx⟩,q⟩:=h;obtain⟨X,rfl⟩:=aA hx.2.1;have hu:=cM hx;have hw:=BF.mJ (BF.md m) hu.1;refine⟨_,ah (sv 3 pE.nd (pf (bA ak) hr (aa (pv 0) (aa (pv 2) (ae))))) (ah (aS (cy (PW.pt (dk (aQ (a8 T.ex .nan (pv 3))) (dR (aQ (a8 T.ex .inf (pv 3))))))) (aj (aq (pf (gg ak) hr (aa (pv 0) (aa (pv 1) (aa (pv 3) (ae))))))) (aB)) (aj (aq (pf (gg ak) hr (aa (pv 0) (aa (pv 1) (aa (pf (gN ak) hr (aa (a8 T.ex .neg (pv 3)) (aa (pf (uA ak) hr (aa (pv 3) (aa (pv 1) (ae)))) (aa (al) (ae))))) (ae)))))))),br rfl rfl rfl ?p1 (fun a1 H1 s1 x1=>⟨((BF.ta (BF.fm k) X).nan||(BF.ta (BF.fm k) X).inf),ax rfl rfl (x1) rfl (aK (fun h2=>?d1) (fun h2=>ax rfl rfl (x1) rfl ?d2)),aK (fun h1=>aW rfl rfl rfl (gk rfl (x1) ?p2 ⟨s1,?r1⟩)) (fun h1=>ax rfl rfl rfl rfl (aW (x1) rfl rfl (jt rfl (x1) ?p3 (e7 rfl ?p4 (fun a2 H2 s2 x2=>gk rfl (x2) ?p5 ⟨(s1).trans s2,?r2⟩)))))⟩)⟩
 all_goals try trivial
 case d1=>exact⟨by rw[h2];rfl,rfl⟩
 case d2=>exact⟨by rw[aV _ |>.mp h2];rfl,rfl⟩
 case p2=>exact⟨hx.1,hm,hu.pb Ke Ke Ke⟩
 case r1=>exact bD q (a7 _ (by rw[aN,BF.yT _ (BF.dm k) _ (bY hx),ao h1]))
 case p3=>exact⟨hm,hu.pb Ke Ke Ke⟩
 case p5 =>
  refine⟨hx.1,hm,hw.2,?_,by show (-8800:Int)≤0;decide,by show (0:Int)≤9000;decide⟩;exact(XC hu).mono Ke
 case r2=>exact bD q (a7 _ (by rw[aN,BF.yT _ (BF.dm k) _ (bY hx),ag h1]))
def GQ (K:aP) (C:Addr):Sp:=fun vs H Q _=>∃k h x y,vs=[.int k,.int h,.int x,.int y]∧(VB k x∧VB k y∧0≤h)∧Q (.int (BF.Fb (BF.fm k) h.toNat x y)) H
theorem GR:aD ["kind","how","a","b"] ["kind","how","a","b"] (ay (top 70)):=bz
theorem Ju (ak:Ev K mg C C2 C3):cw P w K mg base "compared" ["kind","how","a","b"] 4 (GQ K C):=by
 have T:=ak.T;refine bc (ak.df 52) GR qU (qV fun f bw A outer s H Q E hr k h x y h=>?_);obtain⟨⟨hx,hy,hh⟩,q⟩:=h;refine⟨_,ah (aS (cy (PW.pt (kf (b8 bp (pv 1) (al)) (ke (PW.pt (dk (aQ (pf (fz ak) hr (aa (pv 0) (aa (pv 2) (ae))))) (dR (aQ (pf (fz ak) hr (aa (pv 0) (aa (pv 3) (ae)))))))))))) (aj (aq (aG T.Ln rfl))) (aB)) (ah (aS (cy (PW.pt (kf (b8 bp (pv 1) (al)) (kf (aQ (pf (je ak) hr (aa (pv 0) (aa (pv 2) (ae))))) (ke (aQ (pf (je ak) hr (aa (pv 0) (aa (pv 3) (ae)))))))))) (aj (aq (al))) (aB)) (ah (aS (b8 bp (pf (iQ ak) hr (aa (pv 0) (aa (pv 2) (ae)))) (pf (iQ ak) hr (aa (pv 0) (aa (pv 3) (ae))))) (aj (aq (al))) (aB)) (aj (aq (cZ (b9 (b8 jx (pf (iQ ak) hr (aa (pv 0) (aa (pv 2) (ae)))) (pf (iQ ak) hr (aa (pv 0) (aa (pv 3) (ae))))) (iD gq (al)) (al))))))),⟨(decide (h=0)&&(BF.cp (BF.fm k) x||BF.cp (BF.fm k) y)),aE rfl rfl rfl rfl (aK (fun h2=>bx rfl rfl rfl ?p1 rfl (aK (fun h3=>?d1) (fun h3=>bx rfl rfl rfl ?p2 rfl ?d2))) (fun h2=>?d3)),aK (fun h1=>⟨aI.refl _,?r1⟩) (fun h1=>⟨(decide (h=0)&&(BF.eC (BF.fm k) x&&BF.eC (BF.fm k) y)),aE rfl rfl rfl rfl (aK (fun h5=>bx rfl rfl rfl ?p3 rfl (aK (fun h6=>bx rfl rfl rfl ?p4 rfl ?d4) (fun h6=>?d5))) (fun h5=>?d6)),aK (fun h4=>⟨aI.refl _,?r2⟩) (fun h4=>bx rfl rfl rfl ?p5 rfl (bP rfl rfl ?p6 (ck rfl rfl rfl (aK (fun h7=>⟨aI.refl _,?r3⟩) (fun h7=>⟨.int (if BF.place (BF.fm k) x<BF.place (BF.fm k) y then -1 else 1),bx rfl rfl rfl ?p7 rfl (bP rfl rfl ?p8 (ck rfl rfl rfl (aK (fun h8=>bg rfl ?d7) (fun h8=>?d8)))),⟨aI.refl _,?r4⟩⟩)))))⟩)⟩⟩
 all_goals try exact⟨hx.1,hx.2.1⟩
 all_goals try exact⟨hx.1,hy.2.1⟩
 all_goals try exact hx
 all_goals try exact hy
 case d1=>exact⟨by rw[h2,h3];rfl,rfl⟩
 case d2=>exact⟨by rw[h2,aV _ |>.mp h3];rfl,rfl⟩
 case d3=>exact⟨by rw[aV _ |>.mp h2];rfl,rfl⟩
 case d4=>exact⟨by rw[h5,h6];rfl,rfl⟩
 case d5=>exact⟨by rw[h5,aV _ |>.mp h6];rfl,rfl⟩
 case d6=>exact⟨by rw[aV _ |>.mp h5];rfl,rfl⟩
 case d7=>exact⟨by rw[ao (dt h8)],rfl⟩
 case d8=>exact⟨by rw[ag (df h8)],rfl⟩
 all_goals simp only[b5,bj,bR] at h1
 all_goals refine bD q ?_
 all_goals unfold BF.Fb
 case r1=>rw[ao ⟨Kk,h1.2⟩]
 all_goals simp only[b5,bj,bR] at h4
 all_goals rw[ag (show ¬(h.toNat=0∧(BF.cp (BF.fm k) x=true∨BF.cp (BF.fm k) y=true)) from fun z=>h1 ⟨Kk,z.2⟩)]
 case r2=>rw[ao ⟨Kk,h4.2⟩]
 all_goals rw[ag (show ¬(h.toNat=0∧BF.eC (BF.fm k) x=true∧BF.eC (BF.fm k) y=true) from fun z=>h4 ⟨Kk,z.2⟩)]
 case r3=>rw[ao (dt h7)]
 case r4=>rw[ag (df h7)]
def CF (K:aP) (C:Addr):Sp:=fun vs H Q _=>∃a u b v,vs=[.ref a,.ref b]∧(eR C H a u)∧(eR C H b v)∧(Wd (-1074) 2047 53 u∧Wd (-1074) 2047 53 v∧0<v.size)∧∀a H',aI H H'→eR C H' a (BF.rM u v)→Q (.ref a) H'
theorem jf:aD ["u","v","power","n","d","left"] ["u","v"] (ay (top 58)):=bz
theorem Eg (ak:Ev K mg C C2 C3):cw P w K mg base "exact_rest" ["u","v"] 4 (CF K C):=by
 have T:=ak.T;refine cQ (ak.df 40) jf qU (qV fun f bw A outer s H Q E hr a u b v h=>?_);obtain⟨o1,o2,⟨hu,hv,v0⟩,q⟩:=h;have emin:(if v.power<u.power then v.power else u.power)=min u.power v.power:=by split<;>omega
 have VW:∀z:Int,(if z<0 then -z else z)=(z.natAbs:Int):=fun z=>by split<;>omega
 have XD:BF.md 0=Lw.Mode.near:=rfl;have pu:=hu.2.2;have pv':=hv.2.2;obtain⟨cu,cv,dp,sw⟩:=zk hu hv v0;refine⟨_,ah (sv 2 jf.nd (bW (uG rfl) rfl T.Ls boot_min (aa (a8 T.ex .power (pv 0)) (aa (a8 T.ex .power (pv 1)) (ae))))) (ah (sv 3 jf.nd (bW oS rfl T.Cg boot_abs (aa (pf (qw ak) hr (aa (pv 0) (aa (pv 2) (ae)))) (ae)))) (ah (sv 4 jf.nd (bW oS rfl T.Cg boot_abs (aa (pf (qw ak) hr (aa (pv 1) (aa (pv 2) (ae)))) (ae)))) (ah (sv 5 jf.nd (aH dn (pv 3) (aH cK (pv 4) (pf (i3 ak) hr (aa (aG T.e8 rfl) (aa (jL) (aa (pv 3) (aa (pv 4) (ae))))))))) (ah (aS (b8 jx (pv 5) (al)) (aj (aq (pf (gN ak) hr (aa (pQ (a8 T.ex .neg (pv 0))) (aa (iD gq (pv 5)) (aa (pv 2) (ae))))))) (aB)) (aj (aq (pf (gN ak) hr (aa (a8 T.ex .neg (pv 0)) (aa (pv 5) (aa (pv 2) (ae))))))))))),ax rfl rfl (o1) rfl (aR rfl (o2) ⟨_,_,rfl,aR rfl rfl (jt rfl (o1) ?p1 (bg rfl (aR rfl rfl (jt rfl (o2) ?p2 (bg rfl (ax rfl rfl rfl rfl (gK rfl ?p3 (bJ rfl rfl ?c1 (bG rfl rfl (aE rfl rfl rfl rfl (aK (fun h1=>ax rfl rfl (o1) rfl (aW rfl rfl rfl (e7 rfl ?p4 (fun a1 H1 s1 x1=>q _ _ (s1) (gh (x1) ?r1))))) (fun h1=>ax rfl rfl (o1) rfl (bg rfl (e7 rfl ?p5 (fun a2 H2 s2 x2=>q _ _ (s2) (gh (x2) ?r2))))))))))))))))⟩)⟩
 all_goals try trivial
 all_goals rw[emin] at *
 all_goals try simp only[VW,XD]
 case p1=>exact⟨hu.eb Ke Ke Ke,Kk,Kk⟩
 case p2=>exact⟨hv.eb Ke Ke Ke,Kk,Kk⟩
 case p3=>exact⟨⟨Ke,Ke⟩,⟨dp,cv.mono Ke⟩,Kk,cu.mono Ke⟩
 case c1=>exact⟨cv.mono Ke,sw.mono Ke⟩
 all_goals simp only[VW,XD] at h1
 case r1 =>
  have e:=dt h1;unfold BF.rM;dsimp only;rw[if_pos e]
 case r2 =>
  have e:=df h1;unfold BF.rM;dsimp only;rw[if_neg e]
def Rk (K:aP) (C:Addr):Sp:=fun vs H Q _=>∃k x y,vs=[.int k,.int x,.int y]∧(VB k x∧VB k y)∧Q (.int ((BF.fm k).remainder x.toNat y.toNat:Nat)) H
theorem CG:aD ["kind","a","b","u","v"] ["kind","a","b"] (ay (top 57)):=bz
theorem Up (ak:Ev K mg C C2 C3):cw P w K mg base "rest" ["kind","a","b"] 5 (Rk K C):=by
 have T:=ak.T;refine bc (ak.df 39) CG lY (lZ fun f bw A outer s H Q E hr k x y h=>?_);obtain⟨⟨hx,hy⟩,q⟩:=h;obtain⟨X,rfl⟩:=aA hx.2.1;obtain⟨Y,rfl⟩:=aA hy.2.1;have hu:=cM hx;have hv:=cM hy;refine⟨_,ah (sv 3 CG.nd (pf (bA ak) hr (aa (pv 0) (aa (pv 1) (ae))))) (ah (sv 4 CG.nd (pf (bA ak) hr (aa (pv 0) (aa (pv 2) (ae))))) (ah (aS (cy (PW.pt (dk (aQ (a8 T.ex .nan (pv 3))) (dk (aQ (a8 T.ex .nan (pv 4))) (dk (aQ (a8 T.ex .inf (pv 3))) (dR (aQ (pf (fP ak) hr (aa (pv 4) (ae)))))))))) (aj (aq (pf (fw ak) hr (aa (pv 0) (ae))))) (aB)) (ah (aS (aQ (a8 T.ex .inf (pv 4))) (aj (aq (pv 1))) (aB)) (aj (aq (pf (gg ak) hr (aa (pv 0) (aa (aG T.e8 rfl) (aa (pf (Eg ak) hr (aa (pv 3) (aa (pv 4) (ae)))) (ae)))))))))),br rfl rfl rfl ?p1 (fun a1 H1 s1 x1=>br rfl rfl rfl ?p2 (fun a2 H2 s2 x2=>⟨((BF.ta (BF.fm k) X).nan||(BF.ta (BF.fm k) Y).nan||(BF.ta (BF.fm k) X).inf||BF.bC (BF.ta (BF.fm k) Y)),ax rfl rfl ((x1).same s2) rfl (aK (fun h2=>?d1) (fun h2=>ax rfl rfl (x2) rfl (aK (fun h3=>?d2) (fun h3=>ax rfl rfl ((x1).same s2) rfl (aK (fun h4=>?d3) (fun h4=>eK rfl rfl (x2) ?p3 (bg rfl ?d4))))))),aK (fun h1=>cP rfl rfl ?p4 ⟨(s1).trans s2,?r1⟩) (fun h1=>ax rfl rfl (x2) rfl (aK (fun h5=>bg rfl ⟨(s1).trans s2,?r2⟩) (fun h5=>aW rfl rfl rfl (iq rfl ((x1).same s2) (x2) ?p5 (fun a3 H3 s3 x3=>gk rfl (x3) ?p6 ⟨((s1).trans s2).trans s3,?r3⟩)))))⟩))⟩
 all_goals try trivial
 all_goals try exact hx.1
 all_goals try (refine⟨?_,rfl⟩;simp[*])
 all_goals try (refine bD q ?_;rw[aN,aN,BF.rest_eq _ (BF.dm k) (bY hx) (bY hy)])
 case r1=>rw[ao (by assumption)];exact(BF.dN _).symm
 case r2=>rw[ag (by assumption),ao (by assumption)]
 case r3=>rw[ag (by assumption),ag (by assumption)];rfl
 all_goals have v0:0<(BF.ta (BF.fm k) Y).size:=size_pos hv.1 (by simp_all) (by simp_all) (by simp_all)
 case p5=>exact⟨hu,hv,v0⟩
 case p6=>exact⟨hx.1,⟨Ke,Ke⟩,Rj hu hv v0⟩
end
set_option smartUnfolding false
section
variable {P:Program} {w:World} {K:aP} {mg:Str→Option Value} {base:Heap} {C C2 C3:Addr}
def CH (K:aP) (C:Addr):Sp:=fun vs H Q _=>∃k m b sg x,vs=[.int k,.int m,.int b,.bl sg,.int x]∧(VM m∧VB k x∧1≤b∧b≤48)∧Q (.int ((BF.fm k).toInt (BF.md m) b.toNat sg x.toNat)) H
theorem kz:aD ["kind","mode","width","has_sign","a","least","greatest","u"] ["kind","mode","width","has_sign","a"] (ay (top 67)):=bz
theorem Eh (ak:Ev K mg C C2 C3):cw P w K mg base "held_whole" ["kind","mode","width","has_sign","a"] 5 (CH K C):=by
 have T:=ak.T;refine bc (ak.df 49) kz B5 (B6 fun f bw A outer s H Q E hr k m b sg x h=>?_);obtain⟨⟨hm,hx,hb⟩,q⟩:=h;obtain⟨X,rfl⟩:=aA hx.2.1;have hu:=cM hx;have XE:Lw.least b.toNat sg+1*2^b.toNat-1=Lw.most b.toNat sg:=by
  unfold Lw.least Lw.most;obtain⟨j,hj⟩:∃j,b.toNat=j+1:=⟨b.toNat-1,Kk⟩;rw[hj,de,lB,gz];cases sg<;>simp<;>omega
 refine⟨_,ah (sv 5 kz.nd (cZ (b9 (aQ (pv 3)) (iD gq (aH dU (al) (aH dn (pv 2) (al)))) (al)))) (ah (sv 6 kz.nd (aH dn (aH bX (pv 5) (aH dU (al) (pv 2))) (al))) (ah (sv 7 kz.nd (pf (bA ak) hr (aa (pv 0) (aa (pv 4) (ae))))) (ah (aS (aQ (a8 T.ex .nan (pv 7))) (aj (aq (al))) (aB)) (ah (aS (aQ (a8 T.ex .inf (pv 7))) (aj (aq (cZ (b9 (aQ (a8 T.ex .neg (pv 7))) (pv 5) (pv 6))))) (aB)) (aj (aq (bW (uG rfl) rfl T.Ls boot_min (aa (bW (pT rfl) rfl T.GH boot_max (aa (pf (rY ak) hr (aa (pv 7) (aa (pv 1) (ae)))) (aa (pv 5) (ae)))) (aa (pv 6) (ae)))))))))),⟨.int (Lw.least b.toNat sg),aR rfl rfl (aK (fun h1=>bP rfl rfl rfl (bJ rfl rfl ?c1 (bg rfl ?d1))) (fun h1=>?d2)),aR rfl rfl (bJ rfl rfl ?c2 (bG rfl rfl (bG rfl rfl (br rfl rfl rfl ?p1 (fun a1 H1 s1 x1=>ax rfl rfl (x1) rfl (aK (fun h2=>⟨s1,?r1⟩) (fun h2=>ax rfl rfl (x1) rfl (aK (fun h3=>⟨.int (if (BF.ta (BF.fm k) X).neg=true then Lw.least b.toNat sg else Lw.most b.toNat sg),ax rfl rfl (x1) rfl (aK (fun h4=>bg rfl ?d3) (fun h4=>bg rfl ?d4)),⟨s1,?r2⟩⟩) (fun h3=>aR rfl rfl (jt rfl (x1) ?p2 (bg rfl ⟨_,_,rfl,bg rfl ⟨_,_,rfl,⟨s1,?r3⟩⟩⟩)))))))))))⟩⟩
 case c1=>exact⟨Kk,Kk,b6 Ke Ke⟩
 case c2=>exact⟨Kk,Kk,b6 Ke Ke⟩
 case d1=>exact⟨by unfold Lw.least;rw[ao h1,de];exact a7 _ (a7 _ (a7 _ Kk)),rfl⟩
 case d2=>exact⟨by unfold Lw.least;rw[ag h1],rfl⟩
 case p1=>exact hx
 case p2=>exact⟨hm,hu.pb Ke Ke Ke⟩
 case d3=>exact⟨by rw[ao h4],rfl⟩
 case d4=>exact⟨by rw[ag h4];exact a7 V.int XE,rfl⟩
 all_goals refine bD q ?_
 all_goals rw[aN,BF.toInt_eq _ _ _ _ (bY hx)]
 case r1=>rw[ao h2]
 case r2=>rw[ag h2,ao h3]
 case r3 =>
  have hlm:Lw.least b.toNat sg≤Lw.most b.toNat sg:=by
   rw[←XE];have:=BF.aX b.toNat;omega
  rw[ag h2,ag h3];generalize BF.eJ (BF.ta (BF.fm k) X).neg (BF.dq (BF.md m) (BF.ta (BF.fm k) X))=z;unfold Lw.held;rw[XE];split<;>split<;>(try split)<;>(try split)<;>omega
def Ei (K:aP) (C:Addr):Sp:=fun vs H Q _=>∃k n m x y,vs=[.int k,.int n,.int m,.int x,.int y]∧(VM m∧VB k x∧VB k y∧0≤n∧n≤10)∧Q (.int (BF.T6 (BF.fm k) (BF.md m) n x.toNat y.toNat:Nat)) H
theorem Ej:aD ["kind","number","mode","a","b"] ["kind","number","mode","a","b"] (ay (top 52)):=bz
theorem GS (ak:Ev K mg C C2 C3):cw P w K mg base "operation" ["kind","number","mode","a","b"] 6 (Ei K C):=by
 have T:=ak.T;refine bc (ak.df 34) Ej B5 (B6 fun f bw A outer s H Q E hr k n m x y h=>?_);obtain⟨⟨hm,hx,hy,hn⟩,q⟩:=h;obtain⟨X,rfl⟩:=aA hx.2.1;obtain⟨Y,rfl⟩:=aA hy.2.1;refine⟨_,ah (aS (b8 bp (pv 1) (al)) (aj (aq (pf (wZ ak) hr (aa (pv 0) (aa (pv 2) (aa (pv 3) (aa (pv 4) (ae)))))))) (aB)) (ah (aS (b8 bp (pv 1) (al)) (aj (aq (pf (oA ak) hr (aa (pv 0) (aa (pv 2) (aa (pv 3) (aa (pv 4) (ae)))))))) (aB)) (ah (aS (b8 bp (pv 1) (al)) (aj (aq (pf (jF ak) hr (aa (pv 0) (aa (pv 2) (aa (pv 3) (aa (pv 4) (ae)))))))) (aB)) (ah (aS (b8 bp (pv 1) (al)) (aj (aq (pf (CA ak) hr (aa (pv 0) (aa (pv 2) (aa (pv 3) (aa (pv 4) (ae)))))))) (aB)) (ah (aS (b8 bp (pv 1) (al)) (aj (aq (pf (Up ak) hr (aa (pv 0) (aa (pv 3) (aa (pv 4) (ae))))))) (aB)) (ah (aS (b8 bp (pv 1) (al)) (aj (aq (pf (OF ak) hr (aa (pv 0) (aa (pv 3) (aa (pv 4) (ae))))))) (aB)) (ah (aS (b8 bp (pv 1) (al)) (aj (aq (pf (LP ak) hr (aa (pv 0) (aa (pv 3) (aa (pv 4) (ae))))))) (aB)) (ah (aS (b8 bp (pv 1) (al)) (aj (aq (pf (tH ak) hr (aa (pv 0) (aa (pv 3) (aa (jL) (ae))))))) (aB)) (ah (aS (b8 bp (pv 1) (al)) (aj (aq (pf (tH ak) hr (aa (pv 0) (aa (pv 3) (aa (pQ (pf (dX ak) hr (aa (pv 0) (aa (pv 3) (ae))))) (ae))))))) (aB)) (ah (aS (b8 bp (pv 1) (al)) (aj (aq (pf (tH ak) hr (aa (pv 0) (aa (pv 3) (aa (cZ (lP (pf (dX ak) hr (aa (pv 0) (aa (pv 4) (ae)))) (jj (pQ (pf (fz ak) hr (aa (pv 0) (aa (pv 4) (ae)))))))) (ae))))))) (aB)) (aj (aq (pf (zW ak) hr (aa (pv 0) (aa (pv 2) (aa (pv 3) (ae)))))))))))))))),aE rfl rfl rfl rfl (aK (fun h1=>ax rfl rfl rfl rfl (gK rfl ?p1 ⟨aI.refl _,?r1⟩)) (fun h1=>aE rfl rfl rfl rfl (aK (fun h2=>ax rfl rfl rfl rfl (gK rfl ?p2 ⟨aI.refl _,?r2⟩)) (fun h2=>aE rfl rfl rfl rfl (aK (fun h3=>ax rfl rfl rfl rfl (gK rfl ?p3 ⟨aI.refl _,?r3⟩)) (fun h3=>aE rfl rfl rfl rfl (aK (fun h4=>ax rfl rfl rfl rfl (gK rfl ?p4 ⟨aI.refl _,?r4⟩)) (fun h4=>aE rfl rfl rfl rfl (aK (fun h5=>aW rfl rfl rfl (e7 rfl ?p5 ⟨aI.refl _,?r5⟩)) (fun h5=>aE rfl rfl rfl rfl (aK (fun h6=>aW rfl rfl rfl (e7 rfl ?p6 ⟨aI.refl _,?r6⟩)) (fun h6=>aE rfl rfl rfl rfl (aK (fun h7=>aW rfl rfl rfl (e7 rfl ?p7 ⟨aI.refl _,?r7⟩)) (fun h7=>aE rfl rfl rfl rfl (aK (fun h8=>aR rfl rfl (e7 rfl ?p8 ⟨aI.refl _,?r8⟩)) (fun h8=>aE rfl rfl rfl rfl (aK (fun h9=>ax rfl rfl rfl rfl (ck rfl ?p9 rfl (e7 rfl ?Cm ⟨aI.refl _,?r9⟩))) (fun h9=>aE rfl rfl rfl rfl (aK (fun tW=>aR rfl rfl ⟨.bl (decide (BF.aU (BF.fm k)≤(Y:Int))&&!BF.cp (BF.fm k) Y),bx rfl rfl rfl ?Ef rfl (aK (fun Gw=>bx rfl rfl rfl ?CB rfl ?d1) (fun Gw=>?d2)),e7 rfl ?LS ⟨aI.refl _,?Wx⟩⟩) (fun tW=>aW rfl rfl rfl (e7 rfl ?Jv ⟨aI.refl _,?r11⟩)))))))))))))))))))))⟩
 all_goals try exact hx.1
 all_goals try exact⟨hm,hx,hy⟩
 all_goals try exact⟨hx,hy⟩
 all_goals try exact hx
 all_goals try exact⟨hm,hx⟩
 all_goals try exact⟨hx.1,hy.2.1⟩
 case r1=>exact bD q (by rw[dt h1];rfl)
 case r2=>exact bD q (by rw[dt h2];rfl)
 case r3=>exact bD q (by rw[dt h3];rfl)
 case r4=>exact bD q (by rw[dt h4];rfl)
 case r5=>exact bD q (by rw[dt h5];rfl)
 case r6=>exact bD q (by rw[dt h6];rfl)
 case r7=>exact bD q (by rw[dt h7];rfl)
 case r8=>exact bD q (by rw[dt h8];exact(BF.abs_eq _ (bY hx)).symm)
 case r9=>exact bD q (by rw[dt h9];exact(BF.negate_eq _ (bY hx)).symm)
 case d1=>exact⟨by rw[Gw];rfl,rfl⟩
 case d2=>exact⟨by rw[aV _ |>.mp Gw];rfl,rfl⟩
 case Wx=>exact bD q (by rw[dt tW];exact(BF.K0 _ (bY hx) (bY hy)).symm)
 case r11 =>
  have e:n=10:=by
   have:=df h1;have:=df h2;have:=df h3;have:=df h4;have:=df h5;have:=df h6;have:=df h7;have:=df h8;have:=df h9;have:=df tW;omega
  exact bD q (by rw[e];rfl)
end
set_option smartUnfolding true
theorem jq {x:Nat} (h:BF.Out Lw.D x):VB 3 (x:Int):=Uo (k:=3) ⟨Ke,Ke⟩ h
theorem ma:VK 3:=⟨Ke,Ke⟩
theorem me:VM 0:=⟨Ke,Ke⟩
theorem CJ {m:Lw.Mode} {a b c:Nat}:BF.Out Lw.D (Lw.D.fma m a b c):=BF.fM _ BF.cH _ _ _
theorem Rl {m:Lw.Mode} {a b:Nat}:BF.Out Lw.D (Lw.D.add m a b):=BF.fM _ BF.cH _ _ _
theorem Jw {m:Lw.Mode} {a b:Nat}:BF.Out Lw.D (Lw.D.sub m a b):=BF.fM _ BF.cH _ _ _
theorem kC {m:Lw.Mode} {a b:Nat}:BF.Out Lw.D (Lw.D.mul m a b):=BF.ft _ BF.cH _ _
theorem LU {m:Lw.Mode} {a:Nat} {k:Int}:BF.Out Lw.D (Lw.D.scale m a k):=by
 unfold Lw.Fmt.scale;split
 ·exact BF.gf _ BF.cH
 ·exact BF.lr _ BF.cH _
 ·exact BF.lp _ BF.cH _ _ _
theorem CK {m:Lw.Mode} {a b:Nat}:BF.Out Lw.D (Lw.D.div m a b):=by
 unfold Lw.Fmt.div;split<;>(try split)<;>(try split)<;>first | exact BF.gf _ BF.cH | exact BF.lr _ BF.cH _ | exact BF.o7 _ BF.cH _ | exact BF.lp _ BF.cH _ _ _
theorem g9 {m:Lw.Mode} {z:Int}:BF.Out Lw.D (Lw.D.ofInt m z):=BF.lp _ BF.cH _ _ _
theorem XD:BF.md 0=Lw.Mode.near:=rfl
theorem gW {α:Type} {t:TT} {tb:TS} {D:Ends} {σ:L2.St} {H:Hp} (Pv:α→L2.St→Hp→Prop) (μ:α→Nat) (a0:α) (h0:Pv a0 σ H)
  (hs:∀a σ H,Pv a σ H→∃c,t σ H (fun b H1=>b=c∧H1=H)∧if c=true then tb { D with nx:=fun σ' H'=>∃a',Pv a' σ' H'∧μ a'<μ a,ct:=fun σ' H'=>∃a',Pv a' σ' H'∧μ a'<μ a,bk:=D.nx } σ H else D.nx σ H) :
  Mj (VT t) tb D σ H:=by
 refine⟨fun m σ H=>∃a,m=μ a∧Pv a σ H,⟨_,a0,rfl,h0⟩,?_⟩;rintro m σ H ⟨a,rfl,p⟩;obtain⟨c,h1,q⟩:=hs a σ H p;refine⟨c,h1,?_⟩;cases c with
 | true=>exact⟨_,fun σ' H' ⟨a',p',l⟩=>⟨_,l,a',rfl,p'⟩,q⟩
 | false=>exact q
section
variable {P:Program} {w:World} {K:aP} {mg:Str→Option Value} {base:Heap} {C C2 C3:Addr}
def CL (K:aP) (C:Addr):Sp:=fun vs H Q _=>∃z,vs=[.int z]∧(Sm 1000 z)∧Q (.int (Lw.D.ofInt .near z:Nat)) H
theorem CM:aD ["z"] ["z"] (ay (top 90)):=bz
theorem k7 (ak:Ev K mg C C2 C3):cw P w K mg base "whole_bits" ["z"] 5 (CL K C):=by
 have T:=ak.T;refine bc (ak.df 58) CM tZ (ua fun f bw A outer s H Q E hr z h=>?_);obtain⟨hp,q⟩:=h;refine⟨_,aj (aq (pf (gg ak) hr (aa (aG T.DOUBLE rfl) (aa (aG T.e8 rfl) (aa (pf (rX ak) hr (aa (pv 0) (ae))) (ae)))))),cP rfl rfl ?p1 (fun a1 H1 s1 x1=>gk rfl (x1) ?p2 ⟨s1,?r1⟩)⟩
 case p1=>trivial
 case p2=>exact⟨ma,me,by show (0:Int)≤((_:Nat):Int);omega,(hp.mono Ke).le (by show (((_:Nat):Int)).natAbs≤_;omega),by show (-8800:Int)≤0;decide,by show (0:Int)≤9000;decide⟩
 case r1=>exact bD q (a7 _ (BF.Fc _ _ _))
def Ek (K:aP) (C:Addr):Sp:=fun vs H Q _=>∃b x,vs=[.bl b,.int x]∧(∃X:Nat,x=X∧BF.Out Lw.D X)∧Q (.int (BF.K6 b x.toNat:Nat)) H
theorem El:aD ["asked","x"] ["asked","x"] (ay (top 96)):=bz
theorem qz (ak:Ev K mg C C2 C3):cw P w K mg base "turned_if" ["asked","x"] 5 (Ek K C):=by
 have T:=ak.T;refine bc (ak.df 64) El lu (lx fun f bw A outer s H Q E hr b x h=>?_);obtain⟨⟨X,rfl,o⟩,q⟩:=h;refine⟨_,aj (aq (pf (tH ak) hr (aa (aG T.DOUBLE rfl) (aa (pv 1) (aa (iB AJ (pf (dX ak) hr (aa (aG T.DOUBLE rfl) (aa (pv 1) (ae)))) (pv 0)) (ae)))))),bx rfl rfl rfl ?p1 rfl (bG rfl rfl (e7 rfl ?p2 ⟨aI.refl _,?r1⟩))⟩
 case p1=>exact ma
 case p2=>exact jq o
 case r1=>exact bD q (by rw[aN];exact(BF.TV o b).symm)
def GU (K:aP) (C:Addr):Sp:=fun vs H Q _=>∃x,vs=[.int x]∧(VB 3 x)∧Q (.bl (BF.ko (BF.ta (BF.fm 3) x))) H
theorem w4:aD ["y","u"] ["y"] (ay (top 99)):=bz
theorem Jx (ak:Ev K mg C C2 C3):cw P w K mg base "is_whole" ["y"] 5 (GU K C):=by
 have T:=ak.T;refine bc (ak.df 67) w4 tZ (ua fun f bw A outer s H Q E hr x h=>?_);obtain⟨hp,q⟩:=h;have hu:=cM hp;refine⟨_,ah (sv 1 w4.nd (pf (bA ak) hr (aa (aG T.DOUBLE rfl) (aa (pv 0) (ae))))) (aj (aq (cZ (AV (iB mx (a8 T.ex .power (pv 1)) (al)) (jj (iB bp (aH jG (a8 T.ex .size (pv 1)) (aH dU (al) (iD gq (a8 T.ex .power (pv 1))))) (al))))))),bP rfl rfl ?p1 (fun a1 H1 s1 x1=>⟨.bl (BF.ko (BF.ta (BF.fm 3) x)),aW rfl rfl (x1) (ck rfl rfl rfl (aK (fun h1=>?d2) (fun h1=>ax rfl rfl (x1) rfl (aW rfl (x1) rfl (bJ rfl rfl ?c1 (bJ rfl rfl ?c2 (bG rfl rfl ?d1))))))),⟨s1,?r1⟩⟩)⟩
 case p1=>exact hp
 case d2=>exact⟨by unfold BF.ko;rw[h1];rfl,rfl⟩
 case c1=>have:=df h1;have:=hu.2.2;exact⟨Kk,Kk,b6 Ke Ke⟩
 case c2=>show (0:Int)<1*2^_;rw[de];exact BF.aX _
 case d1=>exact⟨by unfold BF.ko;rw[de,aV _ |>.mp h1];rfl,rfl⟩
 case r1=>exact q
def LV (K:aP) (C:Addr):Sp:=fun vs H Q _=>∃x,vs=[.int x]∧(VB 3 x)∧Q (.bl (BF.qH (BF.ta (BF.fm 3) x))) H
theorem CN:aD ["y","u"] ["y"] (ay (top 100)):=bz
theorem OG (ak:Ev K mg C C2 C3):cw P w K mg base "is_odd" ["y"] 5 (LV K C):=by
 have T:=ak.T;refine bc (ak.df 68) CN tZ (ua fun f bw A outer s H Q E hr x h=>?_);obtain⟨hp,q⟩:=h;have hu:=cM hp;refine⟨_,ah (sv 1 CN.nd (pf (bA ak) hr (aa (aG T.DOUBLE rfl) (aa (pv 0) (ae))))) (ah (aS (b8 eY (a8 T.ex .power (pv 1)) (al)) (aj (aq (jL))) (aB)) (aj (aq (iB bp (aH jG (a8 T.ex .size (pv 1)) (aH dU (al) (aH dn (al) (a8 T.ex .power (pv 1))))) (aH dU (al) (iD gq (a8 T.ex .power (pv 1)))))))),bP rfl rfl ?p1 (fun a1 H1 s1 x1=>aW rfl rfl (x1) (ck rfl rfl rfl (aK (fun h1=>⟨s1,?r1⟩) (fun h1=>ax rfl rfl (x1) rfl (br rfl (x1) rfl rfl (bJ rfl rfl ?c1 (bJ rfl rfl ?c2 (ax rfl rfl (x1) rfl (bJ rfl rfl ?c3 (bG rfl rfl ⟨s1,?r2⟩))))))))))⟩
 case p1=>exact hp
 case r1=>exact wI q (by unfold BF.qH;rw[ao (dt h1)])
 case c1=>have:=df h1;have:=hu.2.2;exact⟨Kk,Kk,b6 Ke Ke⟩
 case c2=>show (0:Int)<1*2^_;rw[de];exact BF.aX _
 case c3=>have:=df h1;have:=hu.2.2;exact⟨Kk,Kk,b6 Ke Ke⟩
 case r2=>exact wI q (by unfold BF.qH;rw[ag (df h1),de,de])
def qA (K:aP) (C:Addr):Sp:=fun vs H Q _=>∃x y,vs=[.int x,.int y]∧(VB 3 x∧VB 3 y)∧Q (.int (if x%BF.aU (BF.fm 3)=BF.hZ then BF.hZ else if decide (x%BF.aU (BF.fm 3)<BF.hZ)=decide (BF.aU (BF.fm 3)≤y) then BF.bE (BF.fm 3) else 0)) H
theorem kD:aD ["x","y","size"] ["x","y"] (ay (top 98)):=bz
theorem qX (ak:Ev K mg C C2 C3):cw P w K mg base "raised_to_infinity" ["x","y"] 3 (qA K C):=by
 have T:=ak.T;refine bc (ak.df 66) kD lu (lx fun f bw A outer s H Q E hr x y h=>?_);obtain⟨hp,q⟩:=h;refine⟨_,ah (sv 2 kD.nd (pf (fe ak) hr (aa (aG T.DOUBLE rfl) (aa (pv 0) (ae))))) (ah (aS (b8 bp (pv 2) (aG T.hZ rfl)) (aj (aq (aG T.hZ rfl))) (aB)) (aj (aq (cZ (b9 (b8 GC (iB jx (pv 2) (aG T.hZ rfl)) (pf (dX ak) hr (aa (aG T.DOUBLE rfl) (aa (pv 1) (ae))))) (pf (cF ak) hr (aa (aG T.DOUBLE rfl) (ae))) (al)))))),bP rfl rfl ?p1 (aE rfl rfl rfl rfl (aK (fun h1=>⟨aI.refl _,?r1⟩) (fun h1=>⟨.int (if decide (x%BF.aU (BF.fm 3)<BF.hZ)=decide (BF.aU (BF.fm 3)≤y) then BF.bE (BF.fm 3) else 0),aE rfl rfl rfl rfl (bG rfl ?p2 (ck rfl rfl rfl (aK (fun h2=>eH rfl ?p3 ?d1) (fun h2=>?d2)))),⟨aI.refl _,?r2⟩⟩)))⟩
 case p1=>exact⟨ma,hp.1.2.1⟩
 case p2=>exact ma
 case p3=>exact ma
 case r1=>exact bD q (by rw[ao (show x%BF.aU (BF.fm 3)=BF.hZ from dt h1)];rfl)
 case d1=>exact⟨by rw[ao (show decide (x%BF.aU (BF.fm 3)<BF.hZ)=decide (BF.aU (BF.fm 3)≤y) from dF.mp h2)],rfl⟩
 case d2=>exact⟨by rw[ag (show ¬decide (x%BF.aU (BF.fm 3)<BF.hZ)=decide (BF.aU (BF.fm 3)≤y) from fun z=>h2 (dF.mpr z))],rfl⟩
 case r2=>exact bD q (by rw[ag (show ¬x%BF.aU (BF.fm 3)=BF.hZ from df h1)])
def Rm (K:aP) (C:Addr):Sp:=fun vs H Q _=>∃x,vs=[.int x]∧(VB 3 x)∧Q (.int (BF.il x.toNat:Nat)) H
theorem CO:aD ["x","least","greatest"] ["x"] (ay (top 92)):=bz
theorem Uq (ak:Ev K mg C C2 C3):cw P w K mg base "held" ["x"] 6 (Rm K C):=by
 have T:=ak.T;refine bc (ak.df 60) CO tZ (ua fun f bw A outer s H Q E hr x h=>?_);obtain⟨hp,q⟩:=h;obtain⟨X,rfl⟩:=aA hp.2.1;refine⟨_,ah (sv 1 CO.nd (pf (k7 ak) hr (aa (aG T.zK rfl) (ae)))) (ah (sv 2 CO.nd (pf (k7 ak) hr (aa (aG T.vd rfl) (ae)))) (ah (aS (b8 jx (pf (iQ ak) hr (aa (aG T.DOUBLE rfl) (aa (pv 0) (ae)))) (pf (iQ ak) hr (aa (aG T.DOUBLE rfl) (aa (pv 1) (ae))))) (aj (aq (pv 1))) (aB)) (aj (aq (cZ (b9 (b8 eY (pf (iQ ak) hr (aa (aG T.DOUBLE rfl) (aa (pv 0) (ae)))) (pf (iQ ak) hr (aa (aG T.DOUBLE rfl) (aa (pv 2) (ae))))) (pv 2) (pv 0))))))),eH rfl ?p1 (eH rfl ?p2 (aE rfl rfl ?p3 rfl (bG rfl ?p4 (ck rfl rfl rfl (aK (fun h1=>bg rfl ⟨aI.refl _,?r1⟩) (fun h1=>⟨.int (if BF.place (BF.fm 3) BF.GB<BF.place (BF.fm 3) X then (BF.GB:Int) else X),aE rfl rfl ?p5 rfl (bG rfl ?p6 (ck rfl rfl rfl (aK (fun h2=>bg rfl ?d1) (fun h2=>bg rfl ?d2)))),⟨aI.refl _,?r2⟩⟩))))))⟩
 case p1=>exact b6 Ke Ke
 case p2=>exact b6 Ke Ke
 case p3=>exact hp
 case p4=>exact jq g9
 case p5=>exact hp
 case p6=>exact jq g9
 case r1 =>
  have e:=dt h1;rw[←BF.Ge] at e;exact bD q (by unfold BF.il;rw[aN,ao (show BF.place Lw.D X<BF.place Lw.D BF.LB from e),BF.Ge])
 case d1=>exact⟨by have e:=dt h2;rw[←BF.Gf] at e;rw[ao e,BF.Gf],rfl⟩
 case d2=>exact⟨by have e:=df h2;rw[←BF.Gf] at e;rw[ag e],rfl⟩
 case r2 =>
  refine bD q ?_;unfold BF.il;have e:=df h1;rw[←BF.Ge] at e;rw[aN,ag (show ¬BF.place Lw.D X<BF.place Lw.D BF.LB from e)];show (if BF.place Lw.D BF.GB<BF.place Lw.D X then (BF.GB:Int) else X)=_;split<;>rfl
def ud (K:aP) (C:Addr):Sp:=fun vs H Q _=>∃a u n,vs=[.ref a,.int n]∧(eR C H a u)∧(Wd (-1074) 2047 53 u∧Sm 3000 n)∧∀a H',aI H H'→eR C H' a (BF.beyond u n)→Q (.ref a) H'
theorem lN:aD ["u","n","left"] ["u","n"] (ay (top 95)):=bz
theorem vj (ak:Ev K mg C C2 C3):cw P w K mg base "beyond_quarters" ["u","n"] 5 (ud K C):=by
 have T:=ak.T;refine cQ (ak.df 63) lN lY (lZ fun f bw A outer s H Q E hr a u n h=>?_);obtain⟨o1,⟨hu,hn⟩,q⟩:=h;refine⟨_,ah (sv 2 lN.nd (pf (wV ak) hr (aa (pv 0) (aa (pf (mU ak) hr (aa (pf (rX ak) hr (aa (iD gq (pv 1)) (ae))) (aa (iD gq (al)) (ae)))) (aa (aG T.e8 rfl) (ae)))))) (aj (aq (b9 (aQ (pf (fP ak) hr (aa (pv 2) (ae)))) (pf (gN ak) hr (aa (a8 T.ex .neg (pv 0)) (aa (al) (aa (al) (ae))))) (pv 2)))),aW rfl rfl rfl (eH rfl ?p1 (fun a1 H1 s1 x1=>bg rfl (jt rfl (x1) ?p2 (fun a2 H2 s2 x2=>j0 rfl (((o1).same s1).same s2) ⟨(x2),?p3,fun a3 H3 s3 x3=>eK rfl rfl (x3) ?p4 (bg rfl (aK (fun h1=>aW rfl rfl ((((o1).same s1).same s2).same s3) (e7 rfl ?p5 (fun a4 H4 s4 x4=>q _ _ ((((s1).trans s2).trans s3).trans s4) (gh (x4) ?r1)))) (fun h1=>bg rfl (q _ _ (((s1).trans s2).trans s3) (gh (x3) ?r2)))))⟩))))⟩
 all_goals try trivial
 case p3=>exact⟨hu.eb Ke Ke Ke,⟨by show (0:Int)≤((_:Nat):Int);omega,(hn.mono Ke).le (by show (((_:Nat):Int)).natAbs≤_;omega),by show (-20000:Int)≤0+-2;decide,by show (0+-2:Int)≤20000;decide⟩,me⟩
 case r1=>unfold BF.beyond;rw[ao (show BF.bC (BF.cG .near u (BF.fY (BF.gJ (-n)) (-2)))=true from h1)]
 case r2=>unfold BF.beyond;rw[ag (show ¬BF.bC (BF.cG .near u (BF.fY (BF.gJ (-n)) (-2)))=true from h1)];rfl
theorem Ur {N g:Nat} (h1:g*g≤N) (h2:N<(g+1)*(g+1)):BF.lG N=g:=by
 obtain⟨r,e,r1,r2⟩:=BF.nU N;have:BF.lG N=r:=e;rw[this];exact BF.BH r1 r2 h1 h2
theorem LW {N:Nat} {n:Int} (hN:n=N) (h0:0<n):N<(2^((BF.bl n+1)/2).toNat+1)*(2^((BF.bl n+1)/2).toNat+1):=by
 have ⟨a,b⟩:=BF.oY h0;have hb:1≤BF.bl n:=by unfold BF.bl;rw[ag Kk];omega
 rw[BF.cX Kk,hN] at b;have c:=BF.mC.mp b;rw[←hN] at c;have d:N<2^(BF.bl n).toNat:=by have:=BF.bO (BF.bl n).toNat;omega
 have e:2^(BF.bl n).toNat≤2^((BF.bl n+1)/2).toNat*2^((BF.bl n+1)/2).toNat:=by
  rw[←eD];exact fA Ke Kk
 have f:2^((BF.bl n+1)/2).toNat*2^((BF.bl n+1)/2).toNat≤(2^((BF.bl n+1)/2).toNat+1)*(2^((BF.bl n+1)/2).toNat+1):=DI Kk Kk;omega
def CP (K:aP) (C:Addr):Sp:=fun vs H Q _=>∃n,vs=[.int n]∧(0<n∧Sm 8000 n)∧Q (.int (BF.lG n.toNat:Nat)) H
theorem jg:aD ["n","guess","better"] ["n"] (ay (top 88)):=bz
theorem Em (ak:Ev K mg C C2 C3):cw P w K mg base "floor_root" ["n"] 1 (CP K C):=by
 have T:=ak.T;refine bc (ak.df 56) jg tZ (ua fun f bw A outer s H Q E hr n h=>?_);obtain⟨hp,q⟩:=h;obtain⟨N,hN⟩:=aA (bo hp.1);have b1:=tF hp.2 hp.1;have g0:=LW hN hp.1;refine⟨_,ah (sv 1 jg.nd (aH dU (al) (aH ir (aH bX (AE (pv 0)) (al)) (al)))) (ah (sv 2 jg.nd (aH ir (aH bX (pv 1) (aH ir (pv 0) (pv 1))) (al))) (ah (jQ PassesOwn.never (cy (b8 jx (pv 2) (pv 1))) (ah (sv 1 jg.nd (pv 2)) (aj (sv 2 jg.nd (aH ir (aH bX (pv 1) (aH ir (pv 0) (pv 1))) (al)))))) (aj (aq (pv 1))))),br rfl rfl rfl rfl (bJ rfl rfl (vc Ke Ke) (bJ rfl rfl ?c1 (aW rfl rfl rfl (bJ rfl rfl ?c2 (bG rfl rfl (bJ rfl rfl (vc Ke Ke) ?w1))))))⟩
 case c1=>exact⟨Kk,Kk,b6 Ke Ke⟩
 case c2=>exact⟨by rw[de];exact BF.aX _,by have:=Sm.shl (a:=1) (k:=((BF.bl n+1)/2).toNat) (z:=1) (by unfold Sm;decide);exact this.mono Kk⟩
 case w1 =>
  refine gW (fun (g:Nat) σ H'=>σ=[some (.int n),some (.int g),some (.int ((g+N/g)/2:Nat))]∧H'=H∧0<g∧N<(g+1)*(g+1)∧Sm 8500 g) (fun g=>g) (2^((BF.bl n+1)/2).toNat) ?_ ?_
  ·refine⟨?_,rfl,cV _,g0,?_⟩
   ·subst hN;simp only[de,J2,cJ,BF.bO];rfl
   ·rw[BF.bO];have:=Sm.shl (a:=1) (k:=((BF.bl n+1)/2).toNat) (z:=1) (by unfold Sm;decide);rw[de] at this;exact this.mono Kk
  ·rintro g σ H' ⟨rfl,rfl,g1,g2,g3⟩;have g4:Sm 8500 (((g+N/g)/2:Nat):Int):=by
    have q1:N/g≤N:=J3 N g;have s1:Sm 8500 (N:Int):=by rw[←hN];exact hp.2.mono Ke
    unfold Sm at g3 s1 ⊢;rw[J4] at *;generalize 2^8500=B at *;generalize N/g=Z at *;omega
   have hg':0<(g+N/g)/2:=by
    rcases Nat.eq_zero_or_pos ((g+N/g)/2) with z | z
    ·exfalso;have k:=BF.BG (n:=N) g1;rw[z] at k;have k2:N<1:=by simpa using k
     have:=hp.1;omega
    ·exact z
   refine⟨(decide ((((g+N/g)/2:Nat):Int)<(g:Int))),bx rfl rfl rfl rfl rfl ?d1,aK (fun h1=>bg rfl (aW rfl rfl rfl (bJ rfl rfl ?c3 (bG rfl rfl (bJ rfl rfl (vc Ke Ke) ?e1))))) (fun h1=>bg rfl ⟨aI.refl _,?r1⟩)⟩
   case d1=>exact⟨rfl,rfl⟩
   case c3 =>
    exact⟨Int.natCast_pos.mpr hg',g4.mono Ke⟩
   case e1 =>
    have lt:=dt h1;refine⟨(g+N/g)/2,⟨?_,rfl,hg',BF.BG g1,g4⟩,j6.mp lt⟩;subst hN;simp only[J2,cJ];rfl
   case r1 =>
    have ge:=df h1;refine bD q ?_;rw[hN,aN,Ur (BF.Gb g1 (DL fun z=>ge (j6.mpr z))) g2]
theorem Us (n:Nat):BF.lG n*BF.lG n≤n:=by
 obtain⟨r,e,h,_⟩:=BF.nU n;unfold BF.lG;rw[e];exact h
theorem Rn (t:Lw.Fmt) (h:BF.Ok t) (m:Lw.Mode) {z:Int} {n:Nat} (e:z=n) (p:Int):BF.Bs t m false z 1 p=(t.put m false ((n:Rat)*Lw.two p):Nat):=by
 subst e;rw[←BF.wa t h m false Kk Ke];unfold BF.bK;have:((1:Int):Rat)=1:=rfl;have e2:((n:Int):Rat)=(n:Rat):=rfl;rw[ag Ke,this,e2,show (n:Rat)/1=n by grind]
theorem Ut {n:Nat} {N:Int} (h:Sm 300 N) (h0:0≤N) (e:N.toNat=n):Sm 300 (BF.lG n):=by
 have:=Us n;have h1:BF.lG n≤n:=bZ (Nat.le_mul_self _) this;unfold Sm at *;omega
theorem XF {N:Int} (h:0<N) (e:(BF.lG N.toNat:Int)*(BF.lG N.toNat:Int)=N):BF.lG N.toNat*BF.lG N.toNat=N.toNat:=by omega
theorem XG {N:Int} (h:0<N) (e:BF.lG N.toNat*BF.lG N.toNat=N.toNat):(BF.lG N.toNat:Int)*(BF.lG N.toNat:Int)=N:=by omega
theorem Ro {n m:Nat} (h:Sm 300 (n:Int)) (hm:m≤1):Sm 302 (2*(n:Int)+(m:Int)):=by
 unfold Sm at *;have:(2:Nat)^302=4*2^300:=rfl;omega
def LX (K:aP) (C:Addr):Sp:=fun vs H Q _=>∃a y l,vs=[.ref a,.int y]∧(∀H,j5 K H a (l.map fun (c:Nat)=>V.int c))∧(VB 3 y∧∃init last,l=init++[last]∧∀c∈l,c<2*Lw.D.sign)∧Q (.int (Lw.horner y.toNat l:Nat)) H
def Rp (K:aP) (C:Addr):Sp:=fun vs H Q _=>∃k m x,vs=[.int k,.int m,.int x]∧(VM m∧VB k x)∧Q (.int ((BF.fm k).root (BF.md m) x.toNat:Nat)) H
theorem pF:aD ["kind","mode","a","u","shift","size","whole_root","more"] ["kind","mode","a"] (ay (top 87)):=bz
theorem Uu (ak:Ev K mg C C2 C3):cw P w K mg base "root" ["kind","mode","a"] 5 (Rp K C):=by
 have T:=ak.T;refine bc (ak.df 55) pF lY (lZ fun f bw A outer s H Q E hr k m x h=>?_);obtain⟨⟨hm,hx⟩,q⟩:=h;obtain⟨X,rfl⟩:=aA hx.2.1;have hu:=cM hx;have sm:=BF.gM k;have hk:=hx.1;refine⟨_,ah (sv 3 pF.nd (pf (bA ak) hr (aa (pv 0) (aa (pv 2) (ae))))) (ah (aS (aQ (pf (fP ak) hr (aa (pv 3) (ae)))) (aj (aq (pv 2))) (aB)) (ah (aS (cy (PW.pt (dk (aQ (a8 T.ex .nan (pv 3))) (dR (aQ (a8 T.ex .neg (pv 3))))))) (aj (aq (pf (fw ak) hr (aa (pv 0) (ae))))) (aB)) (ah (aS (aQ (a8 T.ex .inf (pv 3))) (aj (aq (pv 2))) (aB)) (ah (sv 4 pF.nd (aH bX (aH bX (aH cK (al) (ib T.e9 rfl (pv 0))) (al)) (aH jG (a8 T.ex .power (pv 3)) (al)))) (ah (sv 5 pF.nd (aH dU (a8 T.ex .size (pv 3)) (pv 4))) (ah (sv 6 pF.nd (pf (Em ak) hr (aa (pv 5) (ae)))) (ah (sv 7 pF.nd (cZ (b9 (b8 bp (aH cK (pv 6) (pv 6)) (pv 5)) (al) (al)))) (aj (aq (pf (mT ak) hr (aa (pv 0) (aa (pv 1) (aa (jL) (aa (aH bX (aH cK (al) (pv 6)) (pv 7)) (aa (al) (aa (aH dn (aH ir (aH dn (a8 T.ex .power (pv 3)) (pv 4)) (al)) (al)) (ae))))))))))))))))),br rfl rfl rfl ?p1 (fun a1 H1 s1 x1=>eK rfl rfl (x1) ?p2 (bg rfl (aK (fun h1=>bg rfl ⟨s1,?r1⟩) (fun h1=>⟨((BF.ta (BF.fm k) X).nan||(BF.ta (BF.fm k) X).neg),ax rfl rfl (x1) rfl (aK (fun h3=>?d1) (fun h3=>ax rfl rfl (x1) rfl ?d2)),aK (fun h2=>cP rfl rfl ?p3 ⟨s1,?r2⟩) (fun h2=>ax rfl rfl (x1) rfl (aK (fun h4=>bg rfl ⟨s1,?r3⟩) (fun h4=>bP rfl rfl (uz hk) (bJ rfl rfl ?c1 (ck rfl rfl rfl (aR rfl (x1) (bJ rfl rfl (show (0:Int)<2 by decide) (bG rfl rfl (ax rfl rfl (x1) rfl (bJ rfl rfl ?c2 (cP rfl rfl ?p4 ⟨.int (BF.jU (BF.ik (BF.fm k) (BF.ta (BF.fm k) X))),aR rfl rfl (bJ rfl rfl ?c3 (aE rfl rfl rfl rfl (aK (fun h5=>?d3) (fun h5=>?d4)))),aW rfl rfl rfl (bJ rfl rfl ?c4 (aE rfl rfl rfl rfl (aW rfl (x1) rfl (bG rfl rfl (bJ rfl rfl (vc Ke Ke) (bG rfl rfl ⟨_,_,_,_,_,_,rfl,?p5,⟨s1,?r4⟩⟩))))))⟩)))))))))))⟩))))⟩
 all_goals try trivial
 case d1=>exact⟨by rw[h3];rfl,rfl⟩
 case d2=>exact⟨by rw[aV _ |>.mp h3];rfl,rfl⟩
 case r1=>exact bD q (by rw[aN,BF.wg _ (BF.dm k) _ (bY hx),ao h1])
 case r2=>exact bD q (by rw[aN,BF.wg _ (BF.dm k) _ (bY hx),ag h1,ao h2];exact(BF.dN _).symm)
 case r3=>exact bD q (by rw[aN,BF.wg _ (BF.dm k) _ (bY hx),ag h1,ag h2,ao h4])
 case c1=>exact⟨b6 Ke Ke,b6 Kk Ke⟩
 case c2=>exact⟨Kk,Kk,hu.2.1.mono Ke⟩
 all_goals have sp:0<(BF.ta (BF.fm k) X).size:=size_pos hu.1 (by simp_all) (by simp_all) (by simp_all)
 all_goals have Uv:0<(BF.ta (BF.fm k) X).size*2^(2*((BF.fm k).m:Int)+6+(BF.ta (BF.fm k) X).power%2).toNat:=pU sp (BF.aX _)
 all_goals have sN:Sm 300 ((BF.ta (BF.fm k) X).size*2^(2*((BF.fm k).m:Int)+6+(BF.ta (BF.fm k) X).power%2).toNat):=(Sm.shl hu.2.1).mono Kk
 all_goals have eN:((BF.ta (BF.fm k) X).size*2^(2*((BF.fm k).m:Int)+6+(BF.ta (BF.fm k) X).power%2).toNat).toNat=BF.ik (BF.fm k) (BF.ta (BF.fm k) X):=rfl
 case p4=>exact⟨Uv,sN.mono Ke⟩
 all_goals have sq:Sm 300 (BF.lG (BF.ik (BF.fm k) (BF.ta (BF.fm k) X))):=Ut sN (bo Uv) eN
 case c3=>exact⟨sq.mono Ke,sq.mono Ke⟩
 case d3=>exact⟨by unfold BF.jU;rw[ao (show BF.lG (BF.ik (BF.fm k) (BF.ta (BF.fm k) X))*BF.lG (BF.ik (BF.fm k) (BF.ta (BF.fm k) X))=BF.ik (BF.fm k) (BF.ta (BF.fm k) X) from XF Uv (dt h5))];rfl,rfl⟩
 case d4=>exact⟨by unfold BF.jU;rw[ag (show ¬BF.lG (BF.ik (BF.fm k) (BF.ta (BF.fm k) X))*BF.lG (BF.ik (BF.fm k) (BF.ta (BF.fm k) X))=BF.ik (BF.fm k) (BF.ta (BF.fm k) X) from fun e=>df h5 (XG Uv e))];rfl,rfl⟩
 case c4=>exact⟨b6 Ke Ke,sq.mono Ke⟩
 all_goals have mo:BF.jU (BF.ik (BF.fm k) (BF.ta (BF.fm k) X))≤1:=by unfold BF.jU;split<;>omega
 case p5 =>
  have Z5:=hu.2.2;exact⟨hk,hm,⟨by rw[eN];omega,Ke⟩,302,64,by rw[eN];exact Ro sq mo,b6 Ke Ke,Ke,Kk,Kk⟩
 case r4 =>
  refine bD q ?_;rw[aN,BF.wg _ (BF.dm k) _ (bY hx),ag h1,ag h2,ag h4];rw[eN];exact Rn _ (BF.dm k) _ Kk _
end
theorem oe {J:It} {g:TG} {tb:TS} {D:Ends} {σ:L2.St} {H1:Hp} (n:Nat) (Pv:Nat→L2.St→Hp→Prop) (h0:Pv 0 σ H1)
  (hs:∀i σ H,i<n→Pv i σ H→J.go i H∧∀x H',J.Kn i H x H'→g x σ H' fun σ2 H2=>tb { D with nx:=Pv (i+1),ct:=Pv (i+1),bk:=D.nx } σ2 H2)
  (he:∀σ H,Pv n σ H→J.stop n H∧D.nx σ H) :
  ∃W:Nat→Nat→L2.St→Hp→Prop,(∃m,W 0 m σ H1)∧∀i m σ H,W i m σ H →
   (J.stop i H∧D.nx σ H)∨(J.go i H∧∃N:L2.St→Hp→Prop,(∀σ' H',N σ' H'→∃m',m'<m∧W (i+1) m' σ' H')∧∀x H',J.Kn i H x H'→g x σ H' fun σ2 H2=>tb { D with nx:=N,ct:=N,bk:=D.nx } σ2 H2):=by
 refine⟨fun i m σ H=>i≤n∧m=n-i∧Pv i σ H,⟨_,iC n,rfl,h0⟩,?_⟩;rintro i m σ H ⟨hi,rfl,p⟩;rcases Nat.lt_or_eq_of_le hi with l | e
 ·have ⟨a,b⟩:=hs i σ H l p;exact .inr ⟨a,_,fun σ' H' q=>⟨n-(i+1),Kk,l,rfl,q⟩,b⟩
 ·subst e;exact .inl (he σ H p)
def ly (y last:Nat) (init:List Nat) (i:Nat):Nat:=(init.reverse.take i).foldl (fun s c=>Lw.D.fma .near s y c) last
theorem Rq {l init:List Nat} {last:Nat} (h:l=init++[last]):lD (l.map fun (c:Nat)=>V.int c) (-1)=some (.int last):=by
 subst h;unfold lD xO;have e:(-1+((init.length:Int)+1)).toNat=init.length:=by omega
 simp;rw[ao Kk,e];simp
theorem OH {l init:List Nat} {last:Nat} (h:l=init++[last]):gc (l.map fun (c:Nat)=>V.int c) none (some (-1))=init.map fun (c:Nat)=>V.int c:=by
 subst h;unfold gc HT.fI;have e:(-1+((init.length:Int)+1)).toNat=init.length:=by omega
 simp;rw[e,List.take_left' (by simp)]
theorem Jy {y last:Nat} {init:List Nat} {i c:Nat} (h:init[init.length-1-i]?=some c) (hi:i<init.length):ly y last init (i+1)=Lw.D.fma .near (ly y last init i) y c:=by
 unfold ly;have e:init.reverse[i]?=some c:=by rw[List.getElem?_reverse hi];exact h
 rw[sV,e];simp
theorem LY (y last:Nat) (init:List Nat):ly y last init init.length=Lw.horner y (init++[last]):=by
 rw[BF.wj];unfold ly;rw[ni (by simp)]
theorem OI (y last:Nat) (init:List Nat) (h:last<2*Lw.D.sign) (i:Nat):ly y last init i<2*Lw.D.sign:=by
 unfold ly;generalize init.reverse.take i=l
 induction l generalizing last with
 | nil=>exact h
 | cons c r ih=>exact ih _ (BF.eA BF.cH CJ)
section
variable {P:Program} {w:World} {K:aP} {mg:Str→Option Value} {base:Heap} {C C2 C3:Addr}
theorem qB:aD ["row","y","so_far","before"] ["row","y"] (ay (top 89)):=bz
theorem tI (ak:Ev K mg C C2 C3):cw P w K mg base "horner" ["row","y"] 6 (LX K C):=by
 have T:=ak.T;refine bc (ak.df 57) qB lY (lZ fun f bw A outer s H Q E hr a y l h=>?_);obtain⟨o1,⟨hy,init,last,hl,hc⟩,q⟩:=h;refine⟨_,ah (sv 2 qB.nd (et vT (pv 0) (iD gq (al)))) (ah (nM PassesOwn.never rfl (QY rfl T.Jj (aa (eW S3 (pv 0) (ja) (dT (iD gq (al)))) (ae))) (eM (i:=3) qB.nd rfl (Or.inl rfl)) (aj (sv 2 qB.nd (pf (rZ ak) hr (aa (aG T.DOUBLE rfl) (aa (aG T.e8 rfl) (aa (pv 2) (aa (pv 1) (aa (pv 3) (ae)))))))))) (aj (aq (pv 2)))),aR rfl rfl (iq rfl rfl (o1 _) (Rq hl) (aW rfl rfl rfl (bJ rfl (o1 _) ?c1 (fun t1 ht1=>bG rfl (j5.of aL) ?f1))))⟩
 case c1 =>
  unfold HT.fI;simp only[aF,hl,cT,cN,List.length_nil];rintro⟨_,z⟩;rw[ao Ke] at z;omega
 case f1 =>
  obtain⟨Y,rfl⟩:=aA hy.2.1;rw[OH hl,aF];have sq:j5 K (upd H t1 (.tup (init.map fun (c:Nat)=>V.int c))) t1 (init.map fun (c:Nat)=>V.int c):=j5.of aL;refine oe init.length (fun i σ H'=>(∃b,σ=[some (.ref a),some (.int Y),some (.int (ly Y last init i:Nat)),b])∧H'=upd H t1 (.tup (init.map fun (c:Nat)=>V.int c))) ⟨⟨_,rfl⟩,rfl⟩ ?_ ?_
  ·rintro i σ H' hi ⟨⟨b,rfl⟩,rfl⟩;have hx:init[init.length-1-i]?=some (init[init.length-1-i]'Kk):=bI Kk;refine⟨⟨hi,_,_,sq,by rw[aT,hx];rfl⟩,?_⟩;rintro x H' ⟨rfl,hy'⟩;have ex:=hy' _ sq;rw[aT,hx] at ex;generalize FP:init[init.length-1-i]'Kk=c at *;obtain rfl:V.int (c:Int)=x:=bM ex;refine aW rfl rfl rfl (j0 rfl ?p1 ?e1)
   case p1=>exact⟨me,iw (k:=3) ma (OI _ _ _ (hc _ (by rw[hl];simp)) _),hy,iw (k:=3) ma (hc _ (by rw[hl];exact yQ _ (FP ▸ fT _)))⟩
   case e1=>exact⟨⟨_,by rw[Jy hx hi];rfl⟩,rfl⟩
  ·rintro σ H' ⟨⟨b,rfl⟩,rfl⟩;refine⟨bB _,?_⟩;refine bg rfl ⟨(ai ht1),?r1⟩
   case r1=>exact bD q (by rw[LY,hl];rfl)
end
theorem MS {X:Nat} (hx:VB 3 (X:Int)) (h1:¬BF.cp (BF.fm 3) X=true) (h2:¬BF.hJ (BF.fm 3) X=true):∃s q,BF.Num Lw.D X s q:=by
 have Jz:=bY hx;rcases BF.way Lw.D BF.cH Jz with ⟨a,b⟩ | ⟨s,a,b⟩ | ⟨s,X',S,p,a,b,c,d⟩
 ·exact absurd a h1
 ·exact absurd b h2
 ·exact⟨_,_,Jz,d⟩
theorem LZ {X:Nat} {s:Bool} {q:Rat} (n:BF.Num Lw.D X s q):-1200≤BF.mK (BF.il X)∧BF.mK (BF.il X)≤1100:=by
 obtain⟨s',n'⟩:=BF.xX n;rw[BF.Fd n'];have b1:((-1200:Int):Rat)≤(if q < -1200 then (-1200:Rat) else if 1100<q then 1100 else q):=by show (-1200:Rat)≤_;split<;>(try split)<;>grind
 have b2:(if q < -1200 then (-1200:Rat) else if 1100<q then 1100 else q)≤((1100:Int):Rat):=by show _≤(1100:Rat);split<;>(try split)<;>grind
 have:=BF.lH b1 b2;exact⟨this.1,this.2.1⟩
theorem OJ {X:Nat} (hx:VB 3 (X:Int)) (h1:BF.cp (BF.fm 3) X=true) (m:Lw.Mode):(Lw.exp2 m X:Int)=BF.nT (BF.fm 3):=by
 unfold Lw.exp2;rcases BF.way Lw.D BF.cH (bY hx) with ⟨a,b⟩ | ⟨s,a,b⟩ | ⟨s,X',S,p,a,b,c,d⟩
 ·rw[b];exact(BF.dN _)
 ·exact absurd h1 (by rw[show BF.cp (BF.fm 3) X=false from a];decide)
 ·exact absurd h1 (by rw[show BF.cp (BF.fm 3) X=false from a];decide)
theorem OK {X:Nat} (hx:VB 3 (X:Int)) (h1:BF.hJ (BF.fm 3) X=true) (m:Lw.Mode):(Lw.exp2 m X:Int)=if BF.aU (BF.fm 3)≤(X:Int) then 0 else (X:Int):=by
 unfold Lw.exp2;rcases BF.way Lw.D BF.cH (bY hx) with ⟨a,b⟩ | ⟨s,a,b,c,d,e,f,g,i⟩ | ⟨s,X',S,p,a,b,c,d⟩
 ·exfalso;have:BF.hJ Lw.D X=false:=by
   unfold BF.cp at a;unfold BF.hJ;have:=eV a;exact bS Kk
  rw[show BF.hJ Lw.D X=true from h1] at this;cases this
 ·rw[d];cases s
  ·rw[ag (show ¬BF.aU (BF.fm 3)≤(X:Int) from lO e),i];rfl
  ·rw[ao (show BF.aU (BF.fm 3)≤(X:Int) from eV e)];rfl
 ·exact absurd h1 (by rw[show BF.hJ (BF.fm 3) X=false from b];decide)
theorem Rr {X:Nat} {s:Bool} {q:Rat} (n:BF.Num Lw.D X s q):VB 3 (BF.il X:Nat):=by
 obtain⟨s',n'⟩:=BF.xX n;exact iw (k:=3) ma n'.lt
theorem CQ {X:Nat}:BF.xW X=if BF.eC Lw.D (Lw.D.sub .near (BF.il X) (Lw.D.ofInt .near (BF.mK (BF.il X))):Nat)=true then 0 else Lw.D.sub .near (BF.il X) (Lw.D.ofInt .near (BF.mK (BF.il X))):=rfl
theorem OL (X:Nat):BF.Out Lw.D (BF.xW X):=by
 rw[CQ];split
 ·exact BF.o7 Lw.D BF.cH false
 ·exact Jw
theorem Rt:∃init last,Lw.EXP2=init++[last]∧∀c∈Lw.EXP2,c<2*Lw.D.sign:=⟨Lw.EXP2.dropLast,Lw.EXP2.getLast!,Ke,Ke⟩
theorem Ru:∃init last,Lw.LOG2=init++[last]∧∀c∈Lw.LOG2,c<2*Lw.D.sign:=⟨Lw.LOG2.dropLast,Lw.LOG2.getLast!,Ke,Ke⟩
theorem JA:∃init last,Lw.SINE=init++[last]∧∀c∈Lw.SINE,c<2*Lw.D.sign:=⟨Lw.SINE.dropLast,Lw.SINE.getLast!,Ke,Ke⟩
theorem JB:∃init last,BF.yV=init++[last]∧∀c∈BF.yV,c<2*Lw.D.sign:=⟨BF.yV.dropLast,BF.yV.getLast!,Ke,Ke⟩
theorem Rv (y:Nat):BF.Out Lw.D (Lw.horner y Lw.EXP2):=BF.nV y _ _ _
theorem Rw (y:Nat):BF.Out Lw.D (Lw.horner y Lw.LOG2):=BF.nV y _ _ _
theorem JC (y:Nat):BF.Out Lw.D (Lw.horner y Lw.SINE):=BF.nV y _ _ _
theorem w6 (y:Nat):BF.Out Lw.D (Lw.horner y BF.yV):=BF.nV y _ _ _
theorem Rx {X:Nat} (hx:VB 3 (X:Int)) (h1:BF.cp (BF.fm 3) X=true) (m:Lw.Mode):(Lw.logb m X:Int)=BF.nT (BF.fm 3):=by
 unfold Lw.logb;rcases BF.way Lw.D BF.cH (bY hx) with ⟨a,b⟩ | ⟨s,a,b⟩ | ⟨s,X',S,p,a,b,c,d⟩
 ·rw[b];exact(BF.dN _)
 ·exact absurd h1 (by rw[show BF.cp (BF.fm 3) X=false from a];decide)
 ·exact absurd h1 (by rw[show BF.cp (BF.fm 3) X=false from a];decide)
theorem OM {X:Nat} (hx:VB 3 (X:Int)) (h1:BF.eC (BF.fm 3) X=true) (m:Lw.Mode):(Lw.logb m X:Int)=BF.ws (BF.fm 3) true (BF.bE (BF.fm 3)):=by
 unfold Lw.logb;rcases BF.way Lw.D BF.cH (bY hx) with ⟨a,b⟩ | ⟨s,a,b,c⟩ | ⟨s,X',S,p,a,b,c,d⟩
 ·exfalso;have uR:BF.eC Lw.D X=true:=h1;unfold BF.cp at a;unfold BF.eC at uR;have:=eV a;have:=eV uR;have:=BF.gi Lw.D BF.cH;omega
 ·exact absurd h1 (by rw[show BF.eC (BF.fm 3) X=false from c];decide)
 ·have z:S=0:=of_decide_eq_true (c.symm.trans h1);rw[d,z];dsimp only;have:BF.bK s (((0:Int):Rat)*Lw.two p)=0:=by rw[show ((0:Int):Rat)=0 from rfl,Rat.zero_mul];cases s<;>rfl
  rw[ao this];exact BF.lU Lw.D true
theorem dG {s:Bool} {S p:Int} (h:S≠0):BF.bK s ((S:Rat)*Lw.two p)≠0:=by
 have t:=BF.two_pos p;have:(S:Rat)≠0:=fun e=>h (BF.rE.mp (show (S:Rat)=((0:Int):Rat) from e));have k:(S:Rat)*Lw.two p≠0:=fun e=>by
  rcases ji.mp e with z | z
  ·exact this z
  ·grind
 unfold BF.bK;split
 ·exact fun e=>k (by grind)
 ·exact k
theorem Ry {X:Nat} (hx:VB 3 (X:Int)) (h1:¬BF.eC (BF.fm 3) X=true) (h2:decide (BF.aU (BF.fm 3)≤(X:Int))=true) (m:Lw.Mode):(Lw.logb m X:Int)=BF.nT (BF.fm 3):=by
 unfold Lw.logb;rcases BF.way Lw.D BF.cH (bY hx) with ⟨a,b⟩ | ⟨s,a,b,c,d,e⟩ | ⟨s,X',S,p,a,b,c,d,e⟩
 ·rw[b];exact(BF.dN _)
 ·have:s=true:=e.symm.trans h2;rw[d,this];exact(BF.dN _)
 ·have:s=true:=e.symm.trans h2;have z:S≠0:=fun z=>h1 (c.trans (decide_eq_true z));rw[d];dsimp only;rw[if_neg (dG z),if_pos this];exact(BF.dN _)
theorem Rz {X:Nat} (hx:VB 3 (X:Int)) (h2:¬decide (BF.aU (BF.fm 3)≤(X:Int))=true) (h3:BF.hJ (BF.fm 3) X=true) (m:Lw.Mode):(Lw.logb m X:Int)=X:=by
 unfold Lw.logb;rcases BF.way Lw.D BF.cH (bY hx) with ⟨a,b⟩ | ⟨s,a,b,c,d,e,f,g,i⟩ | ⟨s,X',S,p,a,b,c,d,e⟩
 ·exfalso;have uR:BF.hJ Lw.D X=true:=h3;unfold BF.cp at a;unfold BF.hJ at uR;have:=eV a;have:=eV uR;omega
 ·have:s=false:=e.symm.trans (aV _ |>.mp h2);rw[d];rw[this] at i ⊢;rw[i];rfl
 ·exact absurd h3 (by rw[show BF.hJ (BF.fm 3) X=false from b];decide)
theorem RA {X:Nat} (hx:VB 3 (X:Int)) (h1:¬BF.cp (BF.fm 3) X=true) (h0:¬BF.eC (BF.fm 3) X=true) (h2:¬decide (BF.aU (BF.fm 3)≤(X:Int))=true) (h3:¬BF.hJ (BF.fm 3) X=true) :
  ∃q,BF.Num Lw.D X false q∧0<q∧0<(BF.ta Lw.D X).size:=by
 have Jz:=bY hx;rcases BF.way Lw.D BF.cH Jz with ⟨a,b⟩ | ⟨s,a,b⟩ | ⟨s,X',S,p,a,b,c,d,e,f,g,i⟩
 ·exact absurd a h1
 ·exact absurd b h3
 ·have z:S≠0:=fun z=>h0 (c.trans (dv z));have:s=false:=e.symm.trans (aV _ |>.mp h2);subst this;have sp:0<S:=by omega
  refine⟨_,⟨Jz,d⟩,?_,by rw[f];exact sp⟩;have t:=BF.two_pos p;have s2:(0:Rat)<(S:Rat):=BF.mC.mpr sp;exact fF s2 t
section
variable {P:Program} {w:World} {K:aP} {mg:Str→Option Value} {base:Heap} {C C2 C3:Addr}
def yl (K:aP) (C:Addr):Sp:=fun vs H Q _=>∃m x,vs=[.int m,.int x]∧(VM m∧VB 3 x)∧Q (.int (Lw.exp2 (BF.md m) x.toNat:Nat)) H
theorem iy:aD ["mode","x","exponent","k","y"] ["mode","x"] (ay (top 91)):=bz
theorem qL (ak:Ev K mg C C2 C3):cw P w K mg base "power_of_two" ["mode","x"] 7 (yl K C):=by
 have T:=ak.T;refine bc (ak.df 59) iy lu (lx fun f bw A outer s H Q E hr m x h=>?_);obtain⟨⟨hm,hx⟩,q⟩:=h;obtain⟨X,rfl⟩:=aA hx.2.1;refine⟨_,ah (aS (aQ (pf (fz ak) hr (aa (aG T.DOUBLE rfl) (aa (pv 1) (ae))))) (aj (aq (pf (fw ak) hr (aa (aG T.DOUBLE rfl) (ae))))) (aB)) (ah (aS (aQ (pf (gB ak) hr (aa (aG T.DOUBLE rfl) (aa (pv 1) (ae))))) (aj (aq (cZ (b9 (aQ (pf (dX ak) hr (aa (aG T.DOUBLE rfl) (aa (pv 1) (ae))))) (al) (pv 1))))) (aB)) (ah (sv 2 iy.nd (pf (Uq ak) hr (aa (pv 1) (ae)))) (ah (sv 3 iy.nd (pf (pD ak) hr (aa (pf (bA ak) hr (aa (aG T.DOUBLE rfl) (aa (pv 2) (ae)))) (ae)))) (ah (sv 4 iy.nd (pf (oA ak) hr (aa (aG T.DOUBLE rfl) (aa (aG T.e8 rfl) (aa (pv 2) (aa (pf (k7 ak) hr (aa (pv 3) (ae))) (ae))))))) (ah (AH (aS (aQ (pf (je ak) hr (aa (aG T.DOUBLE rfl) (aa (pv 4) (ae))))) (aj (sv 4 iy.nd (al))) (aB))) (aj (aq (pf (yj ak) hr (aa (aG T.DOUBLE rfl) (aa (pv 0) (aa (pf (tI ak) hr (aa (Gz T.EXP2 rfl) (aa (pv 4) (ae)))) (aa (pv 3) (ae))))))))))))),aE rfl rfl ?p1 rfl (aK (fun h1=>eH rfl ?p2 ⟨aI.refl _,?r1⟩) (fun h1=>aE rfl rfl ?p3 rfl (aK (fun h2=>⟨.int (if BF.aU (BF.fm 3)≤(X:Int) then 0 else (X:Int)),aE rfl rfl ?p4 rfl (aK (fun h3=>?d1) (fun h3=>bg rfl ?d2)),⟨aI.refl _,?r2⟩⟩) (fun h2=>cP rfl rfl ?p5 (bP rfl rfl ?p6 (fun a1 H1 s1 x1=>bJ rfl (x1) ?p7 (aR rfl rfl (eH rfl ?p8 (gK rfl ?p9 ⟨[some (.int m),some (.int X),some (.int (BF.il X:Nat)),some (.int (BF.mK (BF.il X))),some (.int (BF.xW X:Nat))],aE rfl rfl ?Cm rfl (aK (fun h4=>?e1) (fun h4=>?e2)),bg rfl (fun abQ Uw=>bg rfl ⟨_,_,Lw.EXP2,rfl,Uw,?Ef,bg rfl (gK rfl ?CB ⟨s1,?r3⟩)⟩)⟩)))))))))⟩
 all_goals try first | exact ma | exact me | exact⟨ma,Kk⟩
 case r1=>exact bD q (OJ hx h1 _).symm
 case d1=>exact⟨by rw[ao (dt h3)],rfl⟩
 case d2=>exact⟨by rw[ag (df h3)],rfl⟩
 case r2=>exact bD q (OK hx h2 _).symm
 all_goals obtain⟨s,qq,nn⟩:=MS hx h1 h2
 all_goals have hb:=LZ nn
 all_goals have hl:=Rr nn
 case p5=>exact hx
 case p6=>exact hl
 case p7=>exact(cM hl).pb Ke Ke Ke
 case p8=>exact b6 (by show (BF.mK (BF.il X)).natAbs<_;omega) Ke
 case p9=>exact⟨me,hl,jq g9⟩
 case e1 =>
  have e:BF.xW X=0:=by rw[CQ];exact ao h4
  exact⟨by rw[e];rfl,rfl⟩
 case e2 =>
  have e:=(CQ (X:=X)).trans (ag h4);exact⟨by rw[e];rfl,rfl⟩
 case Ef=>exact⟨jq (OL X),Rt⟩
 case CB=>exact⟨hm,jq (Rv _),Kk,Kk⟩
 case r3=>exact bD q (a7 (fun z:Nat=>(z:Int)) (BF.Qx _ nn).symm)
def En (K:aP) (C:Addr):Sp:=fun vs H Q _=>∃m x,vs=[.int m,.int x]∧(VM m∧VB 3 x)∧Q (.int (Lw.logb (BF.md m) x.toNat:Nat)) H
theorem fQ:aD ["mode","x","u","leading","k","f","t","y"] ["mode","x"] (ay (top 93)):=bz
theorem w8 (ak:Ev K mg C C2 C3):cw P w K mg base "logarithm" ["mode","x"] 7 (En K C):=by
 have T:=ak.T;refine bc (ak.df 61) fQ lu (lx fun f bw A outer s H Q E hr m x h=>?_);obtain⟨⟨hm,hx⟩,q⟩:=h;obtain⟨X,rfl⟩:=aA hx.2.1;refine⟨_,ah (aS (aQ (pf (fz ak) hr (aa (aG T.DOUBLE rfl) (aa (pv 1) (ae))))) (aj (aq (pf (fw ak) hr (aa (aG T.DOUBLE rfl) (ae))))) (aB)) (ah (aS (aQ (pf (je ak) hr (aa (aG T.DOUBLE rfl) (aa (pv 1) (ae))))) (aj (aq (pf (fE ak) hr (aa (aG T.DOUBLE rfl) (aa (jL) (aa (pf (cF ak) hr (aa (aG T.DOUBLE rfl) (ae))) (ae))))))) (aB)) (ah (aS (aQ (pf (dX ak) hr (aa (aG T.DOUBLE rfl) (aa (pv 1) (ae))))) (aj (aq (pf (fw ak) hr (aa (aG T.DOUBLE rfl) (ae))))) (aB)) (ah (aS (aQ (pf (gB ak) hr (aa (aG T.DOUBLE rfl) (aa (pv 1) (ae))))) (aj (aq (pv 1))) (aB)) (ah (sv 2 fQ.nd (pf (bA ak) hr (aa (aG T.DOUBLE rfl) (aa (pv 1) (ae))))) (ah (sv 3 fQ.nd (aH dn (AE (a8 T.ex .size (pv 2))) (al))) (ah (sv 4 fQ.nd (aH bX (a8 T.ex .power (pv 2)) (pv 3))) (ah (sv 5 fQ.nd (pf (gg ak) hr (aa (aG T.DOUBLE rfl) (aa (aG T.e8 rfl) (aa (pf (gN ak) hr (aa (jL) (aa (a8 T.ex .size (pv 2)) (aa (iD gq (pv 3)) (ae))))) (ae)))))) (ah (AH (aS (b8 mx (pv 5) (aG T.Q7 rfl)) (ah (sv 4 fQ.nd (aH bX (pv 4) (al))) (aj (sv 5 fQ.nd (pf (yj ak) hr (aa (aG T.DOUBLE rfl) (aa (aG T.e8 rfl) (aa (pv 5) (aa (iD gq (al)) (ae))))))))) (aB))) (ah (sv 6 fQ.nd (pf (CA ak) hr (aa (aG T.DOUBLE rfl) (aa (aG T.e8 rfl) (aa (pf (oA ak) hr (aa (aG T.DOUBLE rfl) (aa (aG T.e8 rfl) (aa (pv 5) (aa (aG T.hZ rfl) (ae)))))) (aa (pf (wZ ak) hr (aa (aG T.DOUBLE rfl) (aa (aG T.e8 rfl) (aa (pv 5) (aa (aG T.hZ rfl) (ae)))))) (ae))))))) (ah (sv 7 fQ.nd (pf (jF ak) hr (aa (aG T.DOUBLE rfl) (aa (aG T.e8 rfl) (aa (pv 6) (aa (pv 6) (ae))))))) (aj (aq (pf (rZ ak) hr (aa (aG T.DOUBLE rfl) (aa (pv 0) (aa (pv 6) (aa (pf (tI ak) hr (aa (Gz T.LOG2 rfl) (aa (pv 7) (ae)))) (aa (pf (k7 ak) hr (aa (pv 4) (ae))) (ae))))))))))))))))))),aE rfl rfl ?p1 rfl (aK (fun h1=>eH rfl ?p2 ⟨aI.refl _,?r1⟩) (fun h1=>aE rfl rfl ?p3 rfl (aK (fun h2=>eH rfl ?p4 (e7 rfl ?p5 ⟨aI.refl _,?r2⟩)) (fun h2=>aE rfl rfl ?p6 rfl (aK (fun h3=>eH rfl ?p7 ⟨aI.refl _,?r3⟩) (fun h3=>aE rfl rfl ?p8 rfl (aK (fun h4=>bg rfl ⟨aI.refl _,?r4⟩) (fun h4=>bP rfl rfl ?p9 (fun a1 H1 s1 x1=>ax rfl rfl (x1) rfl (bG rfl rfl (ax rfl rfl (x1) rfl (bG rfl rfl (ax rfl rfl (x1) rfl (bg rfl (e7 rfl ?Cm (fun a2 H2 s2 x2=>gk rfl (x2) ?Ef ⟨[some (.int m),some (.int X),some (.ref a1),some (.int (BF.bl (BF.ta (BF.fm 3) X).size-1)),some (.int (BF.jM X)),some (.int (BF.ou X:Nat)),none,none],aE rfl rfl rfl rfl (aK (fun h5=>bP rfl rfl rfl (aR rfl rfl (gK rfl ?CB ?e1))) (fun h5=>?e2)),bg rfl (gK rfl ?LS (bg rfl (gK rfl ?Jv (gK rfl ?Ux (aR rfl rfl (gK rfl ?RC (aR rfl rfl (fun abR Uy=>bg rfl ⟨_,_,Lw.LOG2,rfl,Uy,?Uz,cP rfl rfl ?UA (j0 rfl ?UB ⟨(s1).trans s2,?r5⟩)⟩))))))))⟩))))))))))))))))⟩
 all_goals try first | exact ma | exact me | exact⟨ma,Kk⟩
 case r1=>exact bD q (Rx hx h1 _).symm
 case r2=>exact bD q (OM hx h2 _).symm
 case r3=>exact bD q (Ry hx h2 h3 _).symm
 case r4=>exact bD q (Rz hx h3 h4 _).symm
 all_goals obtain⟨qq,nn,q0,sp⟩:=RA hx h1 h2 h3 h4
 all_goals have hu:=cM hx
 all_goals have ff:=BF.Gg nn q0
 all_goals have b1:=tF hu.2.1 sp
 try (case p9=>exact hx)
 case Cm=>trivial
 case Ef=>exact⟨ma,me,hu.1,hu.2.1.mono Ke,by show -8800≤-(BF.bl (BF.ta (BF.fm 3) X).size-1);omega,by show -(BF.bl (BF.ta (BF.fm 3) X).size-1)≤9000;omega⟩
 case CB=>exact⟨me,jq (BF.ft _ BF.cH _ _),Ke,Ke⟩
 case e1 =>
  have e:=dt h5;have e':BF.AF≤BF.pd X:=by
   have:((BF.AF:Nat):Int)≤(BF.pd X:Nat):=e;omega
  have k1:BF.jM X=BF.mL X+1:=ao e';have k2:BF.ou X=Lw.D.scale .near (BF.pd X) (-1):=ao e';exact⟨by rw[k1,k2];rfl,rfl⟩
 case e2 =>
  have e:=df h5;have e':¬BF.AF≤BF.pd X:=fun z=>e (show ((BF.AF:Nat):Int)≤(BF.pd X:Nat) by omega);have k1:BF.jM X=BF.mL X:=ag e';have k2:BF.ou X=BF.pd X:=ag e';exact⟨by rw[k1,k2];rfl,rfl⟩
 all_goals have o2:VB 3 (BF.ou X:Nat):=jq (by rw[ff.1];exact BF.lp _ BF.cH _ _ _)
 all_goals have o1:VB 3 (BF.hZ:Nat):=jq (by rw[BF.nW];exact g9)
 case LS=>exact⟨me,o2,o1⟩
 case Jv=>exact⟨me,o2,o1⟩
 case Ux=>exact⟨me,jq Jw,jq Rl⟩
 case RC=>exact⟨me,jq CK,jq CK⟩
 case Uz=>exact⟨jq kC,Ru⟩
 case UA=>exact b6 Kk Ke
 case UB=>exact⟨hm,jq CK,jq (Rw _),jq g9⟩
 case r5=>exact bD q (a7 (fun z:Nat=>(z:Int)) (BF.Iz _ nn q0).symm)
end
set_option smartUnfolding false
theorem UC {m:Lw.Mode} {u:BF.Ex} (h:Wd (-2000) 2900 53 u):Sm 2953 (BF.dq m u):=by
 unfold BF.dq;split
 ·exact(Sm.shl h.2.1).mono (by have:=h.2.2;omega)
 ·rcases BF.xU m u.neg u.size (2^(-u.power).toNat) with e | ⟨e,_⟩
  ·rw[e];have a:=mj (2^(-u.power).toNat) h.1;have b:=f9 h.1 (bo (BF.aX (-u.power).toNat));exact(h.2.1.mono Ke).le Kk
  ·rw[e];have a:=mj (2^(-u.power).toNat) h.1;have b:=f9 h.1 (bo (BF.aX (-u.power).toNat));have c:Sm 53 (u.size/2^(-u.power).toNat):=h.2.1.le Kk;exact(Sm.add c (show Sm 53 1 by unfold Sm;decide)).mono Ke
theorem CS {u:BF.Ex} (h:Wd (-1074) 2047 53 u):Wd (-2000) 2900 53 (BF.fY u 2):=⟨h.1,h.2.1,by have:=h.2.2;show -2000≤u.power+2;omega,by have:=h.2.2;show u.power+2≤2900;omega⟩
theorem AM {u:BF.Ex} (h:Wd (-1074) 2047 53 u):Sm 3000 (BF.eJ (BF.fY u 2).neg (BF.dq .near (BF.fY u 2))):=by
 have a:=(UC (m:=.near) (CS h)).mono (show 2953≤3000 by decide);unfold BF.eJ;split
 ·exact a.neg
 ·exact a
theorem iR (s:Bool):Wd (-1074) 2047 53 (BF.bN s 0 0):=⟨by show (0:Int)≤0;decide,mV,by show (-1074:Int)≤0;decide,by show (0:Int)≤2047;decide⟩
theorem CU {u:BF.Ex} {n:Int} (h:Wd (-1074) 2047 53 u) (hn:Sm 3000 n):PB (BF.beyond u n):=by
 unfold BF.beyond;split
 ·exact(iR _).pb Ke Ke Ke
 ·have b:Wd (-1074) 2047 3000 (BF.fY (BF.gJ (-n)) (-2)):=⟨by show (0:Int)≤((_:Nat):Int);omega,hn.le (by show (((_:Nat):Int)).natAbs≤_;omega),by show (-1074:Int)≤0+-2;decide,by show (0+-2:Int)≤2047;decide⟩;exact(wY (m:=.near) (h.mono (show 53≤3000 by decide) Ke Ke) b Ke Ke).pb Ke Ke Ke
theorem ON {X:Nat} (hx:VB 3 (X:Int)) (h:(BF.cp (BF.fm 3) X||BF.hJ (BF.fm 3) X)=true) (m:Lw.Mode):Lw.sinTurn m X=Lw.D.nan∧Lw.cosTurn m X=Lw.D.nan:=by
 unfold Lw.sinTurn Lw.cosTurn;rcases BF.way Lw.D BF.cH (bY hx) with ⟨a,b⟩ | ⟨s,a,b,c,d⟩ | ⟨s,X',S,p,a,b,c,d⟩
 ·rw[b];exact⟨rfl,rfl⟩
 ·rw[d];exact⟨rfl,rfl⟩
 ·rw[show BF.cp (BF.fm 3) X=false from a,show BF.hJ (BF.fm 3) X=false from b] at h;cases h
theorem pG {x:Nat} (o:BF.Out Lw.D x) (b:Bool):VB 3 (BF.K6 b x:Nat):=by
 cases b
 ·exact jq o
 ·have hx:=BF.eA BF.cH o;refine iw (k:=3) ma ?_;show Lw.D.negate x<2*Lw.D.sign;unfold Lw.Fmt.negate;split
  ·exact BF.eA BF.cH (BF.gf _ BF.cH)
  ·split
   ·omega
   ·next z =>
    rw[←BF.Iq Lw.D hx] at z;have z':=df z;have:=BF.dY Lw.D;omega
theorem tJ {X:Nat} {s:Bool} {qq:Rat} (nn:BF.Num Lw.D X s qq) {m:Lw.Mode} {g:Int} (hg:g=0∨g=1) {u:BF.Ex} (hU:BF.qj X=u) :
  (if g=0 then Lw.sinTurn m X else Lw.cosTurn m X)=BF.ph m ((BF.eJ u.neg (BF.dq .near (BF.fY u 2))+g)%4) (Lw.D.ofKind .near (BF.beyond u (BF.eJ u.neg (BF.dq .near (BF.fY u 2)))).kind):=by
 subst hU;have ⟨a,b⟩:=BF.TX m nn;rcases hg with rfl | rfl
 ·rw[ao rfl,a];rfl
 ·rw[ag Ke,b];rfl
theorem MT {X:Nat} (h:(4841369599423283200:Int)≤(X:Int)%BF.aU (BF.fm 3)):BF.QC≤X%Lw.D.sign:=by
 have e:=BF.dY Lw.D;have e2:BF.aU (BF.fm 3)=((Lw.D.sign:Nat):Int):=by rw[e];rfl
 rw[e2] at h;show 4841369599423283200≤_;omega
theorem MU {X:Nat} (h:BF.QC≤X%Lw.D.sign):(4841369599423283200:Int)≤(X:Int)%BF.aU (BF.fm 3):=by
 have e:=BF.dY Lw.D;have e2:BF.aU (BF.fm 3)=((Lw.D.sign:Nat):Int):=by rw[e];rfl
 rw[e2];have h':4841369599423283200≤X%Lw.D.sign:=h;omega
section
variable {P:Program} {w:World} {K:aP} {mg:Str→Option Value} {base:Heap} {C C2 C3:Addr}
def RD (K:aP) (C:Addr):Sp:=fun vs H Q _=>∃m x g,vs=[.int m,.int x,.int g]∧(VM m∧VB 3 x∧(g=0∨g=1))∧Q (.int ((if g=0 then Lw.sinTurn (BF.md m) x.toNat else Lw.cosTurn (BF.md m) x.toNat):Nat)) H
theorem lz:aD ["mode","x","quarters","u","n","f","y","quadrant","so_far"] ["mode","x","quarters"] (ay (top 94)):=bz
theorem MV (ak:Ev K mg C C2 C3):cw P w K mg base "wave" ["mode","x","quarters"] 7 (RD K C):=by
 have T:=ak.T;refine bc (ak.df 62) lz lY (lZ fun f bw A outer s H Q E hr m x g h=>?_);obtain⟨⟨hm,hx,hg⟩,q⟩:=h;obtain⟨X,rfl⟩:=aA hx.2.1;refine⟨_,ah (aS (cy (PW.pt (dk (aQ (pf (fz ak) hr (aa (aG T.DOUBLE rfl) (aa (pv 1) (ae))))) (dR (aQ (pf (gB ak) hr (aa (aG T.DOUBLE rfl) (aa (pv 1) (ae))))))))) (aj (aq (pf (fw ak) hr (aa (aG T.DOUBLE rfl) (ae))))) (aB)) (ah (sv 3 lz.nd (pf (bA ak) hr (aa (aG T.DOUBLE rfl) (aa (pv 1) (ae))))) (ah (aS (b8 mx (pf (fe ak) hr (aa (aG T.DOUBLE rfl) (aa (pv 1) (ae)))) (aG T.Ce rfl)) (aj (sv 3 lz.nd (pf (gN ak) hr (aa (a8 T.ex .neg (pv 3)) (aa (al) (aa (al) (ae))))))) (aB)) (ah (sv 4 lz.nd (pf (pD ak) hr (aa (pf (mU ak) hr (aa (pv 3) (aa (al) (ae)))) (ae)))) (ah (sv 5 lz.nd (pf (gg ak) hr (aa (aG T.DOUBLE rfl) (aa (aG T.e8 rfl) (aa (pf (vj ak) hr (aa (pv 3) (aa (pv 4) (ae)))) (ae)))))) (ah (sv 6 lz.nd (pf (jF ak) hr (aa (aG T.DOUBLE rfl) (aa (aG T.e8 rfl) (aa (pv 5) (aa (pv 5) (ae))))))) (ah (sv 7 lz.nd (aH jG (aH bX (pv 4) (pv 2)) (al))) (ah (aS (b8 bp (aH jG (pv 7) (al)) (al)) (aj (aq (pf (jF ak) hr (aa (aG T.DOUBLE rfl) (aa (pv 0) (aa (pf (qz ak) hr (aa (iB bp (pv 7) (al)) (aa (pv 5) (ae)))) (aa (pf (tI ak) hr (aa (Gz T.SINE rfl) (aa (pv 6) (ae)))) (ae)))))))) (aB)) (ah (sv 8 lz.nd (pf (qz ak) hr (aa (iB bp (pv 7) (al)) (aa (pf (tI ak) hr (aa (Gz T.Cf rfl) (aa (pv 6) (ae)))) (ae))))) (aj (aq (pf (rZ ak) hr (aa (aG T.DOUBLE rfl) (aa (pv 0) (aa (pv 8) (aa (pv 6) (aa (pf (qz ak) hr (aa (iB bp (pv 7) (al)) (aa (aG T.D5 rfl) (ae)))) (ae))))))))))))))))),⟨(BF.cp (BF.fm 3) X||BF.hJ (BF.fm 3) X),aE rfl rfl ?p1 rfl (aK (fun h2=>?d1) (fun h2=>aE rfl rfl ?p2 rfl ?d2)),aK (fun h1=>eH rfl ?p3 ⟨aI.refl _,?r1⟩) (fun h1=>bP rfl rfl ?p4 (fun a1 H1 s1 x1=>bP rfl rfl ?p5 (ck rfl rfl rfl (aK (fun h3=>aW rfl rfl (x1) (e7 rfl ?p6 (fun a2 H2 s2 x2=>bg rfl (jt rfl (x2) ?p7 (fun a3 H3 s3 x3=>bJ rfl (x3) ?p8 (aR rfl rfl (jt rfl ((x2).same s3) ?p9 (fun a4 H4 s4 x4=>gk rfl (x4) ?Cm (aR rfl rfl (gK rfl ?Ef (br rfl rfl rfl rfl (bJ rfl rfl (show (0:Int)<4 by decide) (eK rfl rfl rfl (show (0:Int)<2 by decide) (ck rfl rfl rfl (aK (fun h4=>bx rfl rfl rfl rfl rfl (bG rfl ?CB (fun UE GV=>bg rfl ⟨_,_,Lw.SINE,rfl,GV,?LS,gK rfl ?Jv ⟨(((s1).trans s2).trans s3).trans s4,?r2⟩⟩))) (fun h4=>bP rfl rfl rfl (fun ym kW=>bg rfl ⟨_,_,BF.yV,rfl,kW,?Ux,bG rfl ?RC (ax rfl rfl rfl rfl (bG rfl rfl (bG rfl ?Uz (j0 rfl ?UA ⟨(((s1).trans s2).trans s3).trans s4,?r3⟩))))⟩))))))))))))))))) (fun h3=>bg rfl (jt rfl (x1) ?UB (fun a5 H5 s5 x5=>bJ rfl (x5) ?XH (aR rfl rfl (jt rfl ((x1).same s5) ?XI (fun a6 H6 s6 x6=>gk rfl (x6) ?XJ (aR rfl rfl (gK rfl ?p23 (br rfl rfl rfl rfl (bJ rfl rfl (show (0:Int)<4 by decide) (eK rfl rfl rfl (show (0:Int)<2 by decide) (ck rfl rfl rfl (aK (fun h5=>bx rfl rfl rfl rfl rfl (bG rfl ?p24 (fun UE GV=>bg rfl ⟨_,_,Lw.SINE,rfl,GV,?p25,gK rfl ?p26 ⟨((s1).trans s5).trans s6,?r4⟩⟩))) (fun h5=>bP rfl rfl rfl (fun ym kW=>bg rfl ⟨_,_,BF.yV,rfl,kW,?p27,bG rfl ?p28 (ax rfl rfl rfl rfl (bG rfl rfl (bG rfl ?p29 (j0 rfl ?p30 ⟨((s1).trans s5).trans s6,?r5⟩))))⟩)))))))))))))))))))⟩⟩
 all_goals try first | exact ma | exact me | exact⟨ma,Kk⟩
 all_goals try exact True.intro
 case d1=>exact⟨by rw[h2];rfl,rfl⟩
 case d2=>exact⟨by rw[aV _ |>.mp h2];rfl,rfl⟩
 case r1=>exact bD q (by have ⟨a,b⟩:=ON hx h1 (BF.md m);rw[aN,a,b];split<;>exact(BF.dN _).symm)
 case p4=>exact hx
 all_goals have uR:¬BF.cp (BF.fm 3) X=true∧¬BF.hJ (BF.fm 3) X=true:=by simpa using h1
 all_goals obtain⟨s,qq,nn⟩:=MS hx uR.1 uR.2
 case p8 =>
  have hw:Wd (-1074) 2047 53 (BF.bN (BF.ta (BF.fm 3) X).neg 0 0):=iR _;exact(CS hw).pb Ke Ke Ke
 case p9 =>
  have hw:Wd (-1074) 2047 53 (BF.bN (BF.ta (BF.fm 3) X).neg 0 0):=iR _;exact⟨hw,AM hw⟩
 case Cm =>
  have hw:Wd (-1074) 2047 53 (BF.bN (BF.ta (BF.fm 3) X).neg 0 0):=iR _;exact⟨ma,me,CU hw (AM hw)⟩
 case Ef =>
  have hw:Wd (-1074) 2047 53 (BF.bN (BF.ta (BF.fm 3) X).neg 0 0):=iR _;exact⟨me,jq (BF.ft _ BF.cH _ _),jq (BF.ft _ BF.cH _ _)⟩
 case CB =>
  have hw:Wd (-1074) 2047 53 (BF.bN (BF.ta (BF.fm 3) X).neg 0 0):=iR _;exact⟨_,rfl,BF.ft _ BF.cH _ _⟩
 case LS =>
  have hw:Wd (-1074) 2047 53 (BF.bN (BF.ta (BF.fm 3) X).neg 0 0):=iR _;exact⟨jq kC,JA⟩
 case Jv =>
  have hw:Wd (-1074) 2047 53 (BF.bN (BF.ta (BF.fm 3) X).neg 0 0):=iR _;exact⟨hm,pG (BF.ft _ BF.cH _ _) _,jq (JC _)⟩
 case Ux =>
  have hw:Wd (-1074) 2047 53 (BF.bN (BF.ta (BF.fm 3) X).neg 0 0):=iR _;exact⟨jq kC,JB⟩
 case RC =>
  have hw:Wd (-1074) 2047 53 (BF.bN (BF.ta (BF.fm 3) X).neg 0 0):=iR _;exact⟨_,rfl,w6 _⟩
 case Uz =>
  have hw:Wd (-1074) 2047 53 (BF.bN (BF.ta (BF.fm 3) X).neg 0 0):=iR _;exact⟨BF.hZ,rfl,by rw[BF.nW];exact g9⟩
 case UA =>
  have hw:Wd (-1074) 2047 53 (BF.bN (BF.ta (BF.fm 3) X).neg 0 0):=iR _;exact⟨hm,pG (w6 _) _,jq kC,pG (x:=BF.hZ) (by rw[BF.nW];exact g9) _⟩
 case r2 =>
  have hU:BF.qj X=BF.bN (BF.ta (BF.fm 3) X).neg 0 0:=ao (MT (dt h3));exact bD q (a7 (fun z:Nat=>(z:Int)) ((tJ nn (m:=BF.md m) hg hU).trans (ao (dt h4))).symm)
 case r3 =>
  have hU:BF.qj X=BF.bN (BF.ta (BF.fm 3) X).neg 0 0:=ao (MT (dt h3));exact bD q (a7 (fun z:Nat=>(z:Int)) ((tJ nn (m:=BF.md m) hg hU).trans (ag (df h4))).symm)
 case XH =>
  have hw:Wd (-1074) 2047 53 (BF.ta (BF.fm 3) X):=cM hx;exact(CS hw).pb Ke Ke Ke
 case XI =>
  have hw:Wd (-1074) 2047 53 (BF.ta (BF.fm 3) X):=cM hx;exact⟨hw,AM hw⟩
 case XJ =>
  have hw:Wd (-1074) 2047 53 (BF.ta (BF.fm 3) X):=cM hx;exact⟨ma,me,CU hw (AM hw)⟩
 case p23 =>
  have hw:Wd (-1074) 2047 53 (BF.ta (BF.fm 3) X):=cM hx;exact⟨me,jq (BF.ft _ BF.cH _ _),jq (BF.ft _ BF.cH _ _)⟩
 case p24 =>
  have hw:Wd (-1074) 2047 53 (BF.ta (BF.fm 3) X):=cM hx;exact⟨_,rfl,BF.ft _ BF.cH _ _⟩
 case p25 =>
  have hw:Wd (-1074) 2047 53 (BF.ta (BF.fm 3) X):=cM hx;exact⟨jq kC,JA⟩
 case p26 =>
  have hw:Wd (-1074) 2047 53 (BF.ta (BF.fm 3) X):=cM hx;exact⟨hm,pG (BF.ft _ BF.cH _ _) _,jq (JC _)⟩
 case p27 =>
  have hw:Wd (-1074) 2047 53 (BF.ta (BF.fm 3) X):=cM hx;exact⟨jq kC,JB⟩
 case p28 =>
  have hw:Wd (-1074) 2047 53 (BF.ta (BF.fm 3) X):=cM hx;exact⟨_,rfl,w6 _⟩
 case p29 =>
  have hw:Wd (-1074) 2047 53 (BF.ta (BF.fm 3) X):=cM hx;exact⟨BF.hZ,rfl,by rw[BF.nW];exact g9⟩
 case p30 =>
  have hw:Wd (-1074) 2047 53 (BF.ta (BF.fm 3) X):=cM hx;exact⟨hm,pG (w6 _) _,jq kC,pG (x:=BF.hZ) (by rw[BF.nW];exact g9) _⟩
 case r4 =>
  have hU:BF.qj X=BF.ta (BF.fm 3) X:=ag fun z=>df h3 (MU z);exact bD q (a7 (fun z:Nat=>(z:Int)) ((tJ nn (m:=BF.md m) hg hU).trans (ao (dt h5))).symm)
 case r5 =>
  have hU:BF.qj X=BF.ta (BF.fm 3) X:=ag fun z=>df h3 (MU z);exact bD q (a7 (fun z:Nat=>(z:Int)) ((tJ nn (m:=BF.md m) hg hU).trans (ag (df h5))).symm)
end
set_option smartUnfolding true
def yn (m:Int):Int:=if m=1 then 2 else if m=2 then 1 else m
theorem tK {m:Int} (h:VM m):VM (yn m)∧BF.md (yn m)=BF.jV (BF.md m):=by
 rcases BF.wz h.1 h.2 with rfl | rfl | rfl | rfl | rfl<;>exact⟨⟨Ke,Ke⟩,rfl⟩
theorem RE {m m2:Int} (h:VM m) (h2:VM m2∧BF.md m2=BF.jV (BF.md m)):m2=yn m:=by
 rw[←(tK h).2] at h2;have v:=(tK h).1;generalize yn m=k at *;rcases BF.wz v.1 v.2 with rfl | rfl | rfl | rfl | rfl<;>rcases BF.wz h2.1.1 h2.1.2 with rfl | rfl | rfl | rfl | rfl<;>first | rfl | (exfalso;have:=h2.2;simp[BF.md] at this)
theorem RF (X:Nat):((X:Int)%BF.aU (BF.fm 3))=((X%Lw.D.sign:Nat):Int):=by
 have e:=BF.dY Lw.D;have e2:BF.aU (BF.fm 3)=((Lw.D.sign:Nat):Int):=by rw[e];rfl
 rw[e2];rfl
theorem FC {m:Lw.Mode} {X:Nat}:BF.Out Lw.D (Lw.logb m X):=by
 unfold Lw.logb;split
 ·exact BF.gf _ BF.cH
 ·split
  ·exact BF.gf _ BF.cH
  ·exact BF.lr _ BF.cH _
 ·split
  ·exact BF.lr _ BF.cH _
  ·split
   ·exact BF.gf _ BF.cH
   ·exact CJ
section
variable {P:Program} {w:World} {K:aP} {mg:Str→Option Value} {base:Heap} {C C2 C3:Addr}
def L0 (K:aP) (C:Addr):Sp:=fun vs H Q _=>∃m x y,vs=[.int m,.int x,.int y]∧(VM m∧VB 3 x∧VB 3 y)∧Q (.int (Lw.power (BF.md m) x.toNat y.toNat:Nat)) H
theorem mW:aD ["mode","x","y","negative","grows","exponent","size"] ["mode","x","y"] (ay (top 97)):=bz
theorem OO (ak:Ev K mg C C2 C3):cw P w K mg base "raised" ["mode","x","y"] 8 (L0 K C):=by
 have T:=ak.T;refine bc (ak.df 65) mW lY (lZ fun f bw A outer s H Q E hr m x y h=>?_);obtain⟨⟨hm,hx,hy⟩,q⟩:=h;obtain⟨X,rfl⟩:=aA hx.2.1;obtain⟨Y,rfl⟩:=aA hy.2.1;refine⟨_,ah (aS (cy (PW.pt (dk (aQ (pf (fz ak) hr (aa (aG T.DOUBLE rfl) (aa (pv 1) (ae))))) (dR (aQ (pf (fz ak) hr (aa (aG T.DOUBLE rfl) (aa (pv 2) (ae))))))))) (aj (aq (pf (fw ak) hr (aa (aG T.DOUBLE rfl) (ae))))) (aB)) (ah (aS (aQ (pf (je ak) hr (aa (aG T.DOUBLE rfl) (aa (pv 2) (ae))))) (aj (aq (aG T.hZ rfl))) (aB)) (ah (aS (aQ (pf (gB ak) hr (aa (aG T.DOUBLE rfl) (aa (pv 2) (ae))))) (aj (aq (pf (qX ak) hr (aa (pv 1) (aa (pv 2) (ae)))))) (aB)) (ah (sv 3 mW.nd (cZ (lP (pf (dX ak) hr (aa (aG T.DOUBLE rfl) (aa (pv 1) (ae)))) (jj (pf (OG ak) hr (aa (pv 2) (ae))))))) (ah (aS (cy (PW.pt (dk (aQ (pf (je ak) hr (aa (aG T.DOUBLE rfl) (aa (pv 1) (ae))))) (dR (aQ (pf (gB ak) hr (aa (aG T.DOUBLE rfl) (aa (pv 1) (ae))))))))) (ah (sv 4 mW.nd (iB GC (pf (je ak) hr (aa (aG T.DOUBLE rfl) (aa (pv 1) (ae)))) (pf (dX ak) hr (aa (aG T.DOUBLE rfl) (aa (pv 2) (ae)))))) (aj (aq (pf (fE ak) hr (aa (aG T.DOUBLE rfl) (aa (pv 3) (aa (cZ (b9 (aQ (pv 4)) (pf (cF ak) hr (aa (aG T.DOUBLE rfl) (ae))) (al))) (ae)))))))) (aB)) (ah (aS (cy (PW.pt (kf (aQ (pf (dX ak) hr (aa (aG T.DOUBLE rfl) (aa (pv 1) (ae))))) (ke (i0 (aQ (pf (Jx ak) hr (aa (pv 2) (ae))))))))) (aj (aq (pf (fw ak) hr (aa (aG T.DOUBLE rfl) (ae))))) (aB)) (ah (sv 5 mW.nd (pf (jF ak) hr (aa (aG T.DOUBLE rfl) (aa (aG T.e8 rfl) (aa (pv 2) (aa (pf (w8 ak) hr (aa (aG T.e8 rfl) (aa (pf (fe ak) hr (aa (aG T.DOUBLE rfl) (aa (pv 1) (ae)))) (ae)))) (ae))))))) (ah (sv 6 mW.nd (pf (qL ak) hr (aa (cZ (b9 (aQ (pv 3)) (pf (Ox ak) hr (aa (pv 0) (ae))) (pv 0))) (aa (pv 5) (ae))))) (aj (aq (pf (fE ak) hr (aa (aG T.DOUBLE rfl) (aa (pv 3) (aa (pv 6) (ae)))))))))))))),⟨(BF.cp (BF.fm 3) X||BF.cp (BF.fm 3) Y),aE rfl rfl ?p1 rfl (aK (fun h2=>?d1) (fun h2=>aE rfl rfl ?p2 rfl ?d2)),aK (fun h1=>eH rfl ?p3 ⟨aI.refl _,?r1⟩) (fun h1=>aE rfl rfl ?p4 rfl (aK (fun h3=>⟨aI.refl _,?r2⟩) (fun h3=>aE rfl rfl ?p5 rfl (aK (fun h4=>br rfl rfl rfl ?p6 ⟨aI.refl _,?r3⟩) (fun h4=>⟨.bl (decide (BF.aU (BF.fm 3)≤(X:Int))&&BF.qH (BF.ta (BF.fm 3) Y)),aE rfl rfl ?p7 rfl (aK (fun h5=>cP rfl rfl ?p8 ?d3) (fun h5=>?d4)),⟨(BF.eC (BF.fm 3) X||BF.hJ (BF.fm 3) X),aE rfl rfl ?p9 rfl (aK (fun h7=>?d5) (fun h7=>aE rfl rfl ?Cm rfl ?d6)),aK (fun h6=>aE rfl rfl ?Ef rfl (bG rfl ?CB (bG rfl rfl (bg rfl ⟨.int (if (BF.eC (BF.fm 3) X==decide (BF.aU (BF.fm 3)≤(Y:Int)))=true then BF.bE (BF.fm 3) else 0),aR rfl rfl (aK (fun h8=>eH rfl ?LS ?d7) (fun h8=>?d8)),e7 rfl ?Jv ⟨aI.refl _,?r4⟩⟩)))) (fun h6=>⟨(decide (BF.aU (BF.fm 3)≤(X:Int))&&!BF.ko (BF.ta (BF.fm 3) Y)),aE rfl rfl ?Ux rfl (aK (fun tW=>cP rfl rfl ?RC (bg rfl ?d9)) (fun tW=>?I0)),aK (fun h9=>eH rfl ?Uz ⟨aI.refl _,?r5⟩) (fun h9=>br rfl rfl rfl ?UA (bG rfl ?UB (gK rfl ?XH ⟨.int (if (decide (BF.aU (BF.fm 3)≤(X:Int))&&BF.qH (BF.ta (BF.fm 3) Y))=true then yn m else m),aR rfl rfl (aK (fun Gw=>cP rfl rfl ?XI ?RG) (fun Gw=>bg rfl ?XM)),bP rfl rfl ?XJ (aR rfl rfl (e7 rfl ?p23 ⟨aI.refl _,?r6⟩))⟩)))⟩)⟩⟩)))))⟩⟩
 all_goals try first | exact ma | exact me | exact⟨ma,Kk⟩
 all_goals have pw:=BF.N4 (BF.md m) (bY hx) (bY hy)
 case d1=>exact⟨by rw[h2];rfl,rfl⟩
 case d2=>exact⟨by rw[aV _ |>.mp h2];rfl,rfl⟩
 all_goals unfold BF.Gj at pw
 all_goals rw[show Lw.D=BF.fm 3 from rfl] at pw
 case r1=>rw[ao h1] at pw;exact bD q pw.symm
 all_goals rw[ag h1] at pw
 case r2=>rw[ao h3] at pw;exact bD q pw.symm
 all_goals rw[ag h3] at pw
 case p6=>exact⟨hx,hy⟩
 case r3=>rw[ao h4] at pw;exact bD q pw.symm
 all_goals rw[ag h4] at pw
 case p8=>exact hy
 case d3=>exact⟨by rw[h5];rfl,rfl⟩
 case d4=>exact⟨by rw[aV _ |>.mp h5];rfl,rfl⟩
 case d5=>exact⟨by rw[h7];rfl,rfl⟩
 case d6=>exact⟨by rw[aV _ |>.mp h7];rfl,rfl⟩
 case d7=>exact⟨by rw[ao h8],rfl⟩
 case d8=>exact⟨by rw[ag h8],rfl⟩
 all_goals dsimp only at pw
 case r4 =>
  rw[ao h6] at pw;refine bD q (Eq.trans ?_ pw.symm);congr 1;by_cases c:BF.eC (BF.fm 3) X=decide (BF.aU (BF.fm 3)≤(Y:Int))
  ·rw[ao (dF.mpr c)];exact(ao c).symm
  ·rw[ag fun z=>c (dF.mp z)];exact(ag c).symm
 all_goals rw[ag h6] at pw
 case RC=>exact hy
 case d9=>exact⟨by rw[tW];rfl,rfl⟩
 case I0=>exact⟨by rw[aV _ |>.mp tW];rfl,rfl⟩
 case r5=>rw[ao h9] at pw;exact bD q pw.symm
 all_goals rw[ag h9] at pw
 case UB=>exact⟨me,by rw[RF];exact iw (k:=3) ma (cg (fK _ Ke) Ke)⟩
 case XH=>exact⟨me,hy,jq FC⟩
 case XI=>exact hm
 case RG=>exact fun m2 e=>⟨by rw[ao Gw,RE hm e],rfl⟩
 case XM=>exact⟨by rw[ag Gw],rfl⟩
 case XJ=>exact⟨by split;exact(tK hm).1;exact hm,jq kC⟩
 case r6 =>
  refine bD q (Eq.trans ?_ pw.symm);congr 2;have e:BF.md (if (decide (BF.aU (BF.fm 3)≤(X:Int))&&BF.qH (BF.ta (BF.fm 3) Y))=true then yn m else m)=(if (decide (BF.aU (BF.fm 3)≤(X:Int))&&BF.qH (BF.ta (BF.fm 3) Y))=true then BF.jV (BF.md m) else BF.md m):=by
   split
   ·exact(tK hm).2
   ·rfl
  rw[e,RF];rfl
end
def oB (n:Int) (m:Lw.Mode) (x y:Nat):Nat:=if n=0 then Lw.exp2 m x else if n=1 then Lw.logb m x else if n=2 then Lw.sinTurn m x else if n=3 then Lw.cosTurn m x else Lw.power m x y
theorem UG {x:Nat} (hx:x<2*Lw.D.sign):Lw.D.negate x<2*Lw.D.sign:=by
 unfold Lw.Fmt.negate;split
 ·exact BF.eA BF.cH (BF.gf _ BF.cH)
 ·split
  ·omega
  ·next z =>
   rw[←BF.Iq Lw.D hx] at z;have z':=df z;have:=BF.dY Lw.D;omega
theorem FD {m:Lw.Mode} {x:Nat}:BF.Out Lw.D (Lw.exp2 m x):=by
 unfold Lw.exp2;split
 ·exact BF.gf _ BF.cH
 ·split
  ·exact BF.o7 _ BF.cH _
  ·exact BF.lr _ BF.cH _
 ·exact LU
theorem JD (m:Lw.Mode) (n:Int) (z:Bool) (f:Rat):Lw.turnStep m n z f<2*Lw.D.sign:=by
 unfold Lw.turnStep;dsimp only;split
 ·exact BF.eA BF.cH kC
 ·split
  ·exact BF.eA BF.cH CJ
  ·exact BF.eA BF.cH (BF.gf _ BF.cH)
theorem UH (m:Lw.Mode) (x y:Nat):Lw.power m x y<2*Lw.D.sign:=by
 unfold Lw.power;have a1:=BF.eA BF.cH (BF.gf Lw.D BF.cH);have a2:=fun b=>BF.eA BF.cH (BF.o7 Lw.D BF.cH b);have a3:=fun b=>BF.eA BF.cH (BF.lr Lw.D BF.cH b);have a4:Lw.D.ofInt .near 1<2*Lw.D.sign:=BF.eA BF.cH g9;have a5:=fun m x=>BF.eA BF.cH (FD (m:=m) (x:=x));have a6:=fun m x=>UG (a5 m x);dsimp only
 repeat' split
 all_goals first | exact a1 | exact a2 _ | exact a3 _ | exact a4 | exact a5 _ _ | exact a6 _ _
theorem RH (n:Int) (m:Lw.Mode) (x y:Nat):oB n m x y<2*Lw.D.sign:=by
 unfold oB;split
 ·exact BF.eA BF.cH FD
 split
 ·exact BF.eA BF.cH FC
 split
 ·unfold Lw.sinTurn;split
  ·exact JD _ _ _ _
  ·exact BF.eA BF.cH (BF.gf _ BF.cH)
 split
 ·unfold Lw.cosTurn;split
  ·exact JD _ _ _ _
  ·exact BF.eA BF.cH (BF.gf _ BF.cH)
 ·exact UH _ _ _
theorem UI {n:Int} (h:0≤n) (h2:n≤5) (h4:n≠4) (m:Lw.Mode) (x y:Nat):BF.IM Lw.D m n x y=oB n m x y:=by
 have:n=0∨n=1∨n=2∨n=3∨n=4∨n=5:=by omega
 rcases this with rfl | rfl | rfl | rfl | rfl | rfl<;>first | rfl | exact absurd rfl h4
theorem UJ {k n:Int} (hk:VK k) (k3:k≠3) (h:0≤n) (h2:n≤5) (h4:n≠4) (m:Lw.Mode) (x y:Nat):BF.IM (BF.fm k) m n x y=Lw.D.to (BF.fm k) m (oB n .near ((BF.fm k).to Lw.D .near x) ((BF.fm k).to Lw.D .near y)):=by
 have:n=0∨n=1∨n=2∨n=3∨n=4∨n=5:=by omega
 rcases BF.uw hk.1 hk.2 with rfl | rfl | rfl | rfl
 ·rcases this with rfl | rfl | rfl | rfl | rfl | rfl<;>first | rfl | exact absurd rfl h4
 ·rcases this with rfl | rfl | rfl | rfl | rfl | rfl<;>first | rfl | exact absurd rfl h4
 ·rcases this with rfl | rfl | rfl | rfl | rfl | rfl<;>first | rfl | exact absurd rfl h4
 ·exact absurd rfl k3
section
variable {P:Program} {w:World} {K:aP} {mg:Str→Option Value} {base:Heap} {C C2 C3:Addr}
def GW (K:aP) (C:Addr):Sp:=fun vs H Q _=>∃n m x y,vs=[.int n,.int m,.int x,.int y]∧(VM m∧VB 3 x∧VB 3 y)∧Q (.int (oB n (BF.md m) x.toNat y.toNat:Nat)) H
theorem GX:aD ["number","mode","x","y"] ["number","mode","x","y"] (ay (top 86)):=bz
theorem zm (ak:Ev K mg C C2 C3):cw P w K mg base "by_steps" ["number","mode","x","y"] 9 (GW K C):=by
 have T:=ak.T;refine bc (ak.df 54) GX qU (qV fun f bw A outer s H Q E hr n m x y h=>?_);obtain⟨⟨hm,hx,hy⟩,q⟩:=h;obtain⟨X,rfl⟩:=aA hx.2.1;obtain⟨Y,rfl⟩:=aA hy.2.1;refine⟨_,ah (aS (b8 bp (pv 0) (al)) (aj (aq (pf (qL ak) hr (aa (pv 1) (aa (pv 2) (ae)))))) (aB)) (ah (aS (b8 bp (pv 0) (al)) (aj (aq (pf (w8 ak) hr (aa (pv 1) (aa (pv 2) (ae)))))) (aB)) (ah (aS (b8 bp (pv 0) (al)) (aj (aq (pf (MV ak) hr (aa (pv 1) (aa (pv 2) (aa (al) (ae))))))) (aB)) (ah (aS (b8 bp (pv 0) (al)) (aj (aq (pf (MV ak) hr (aa (pv 1) (aa (pv 2) (aa (al) (ae))))))) (aB)) (aj (aq (pf (OO ak) hr (aa (pv 1) (aa (pv 2) (aa (pv 3) (ae)))))))))),aE rfl rfl rfl rfl (aK (fun h1=>br rfl rfl rfl ?p1 ⟨aI.refl _,?r1⟩) (fun h1=>aE rfl rfl rfl rfl (aK (fun h2=>br rfl rfl rfl ?p2 ⟨aI.refl _,?r2⟩) (fun h2=>aE rfl rfl rfl rfl (aK (fun h3=>aR rfl rfl (e7 rfl ?p3 ⟨aI.refl _,?r3⟩)) (fun h3=>aE rfl rfl rfl rfl (aK (fun h4=>aR rfl rfl (e7 rfl ?p4 ⟨aI.refl _,?r4⟩)) (fun h4=>aW rfl rfl rfl (e7 rfl ?p5 ⟨aI.refl _,?r5⟩)))))))))⟩
 case p1=>exact⟨hm,hx⟩
 case r1=>exact bD q (by unfold oB;rw[ao (dt h1)])
 case p2=>exact⟨hm,hx⟩
 case r2=>exact bD q (by unfold oB;rw[ag (df h1),ao (dt h2)])
 case p3=>exact⟨hm,hx,.inl rfl⟩
 case r3=>exact bD q (by unfold oB;rw[ag (df h1),ag (df h2),ao (dt h3),ao rfl])
 case p4=>exact⟨hm,hx,.inr rfl⟩
 case r4=>exact bD q (by unfold oB;rw[ag (df h1),ag (df h2),ag (df h3),ao (dt h4),ag Ke])
 case p5=>exact⟨hm,hx,hy⟩
 case r5=>exact bD q (by unfold oB;rw[ag (df h1),ag (df h2),ag (df h3),ag (df h4)])
def GY (K:aP) (C:Addr):Sp:=fun vs H Q _=>∃k n m x y,vs=[.int k,.int n,.int m,.int x,.int y]∧(VM m∧VB k x∧VB k y∧0≤n∧n≤5)∧Q (.int (BF.IM (BF.fm k) (BF.md m) n x.toNat y.toNat:Nat)) H
theorem qC:aD ["kind","number","mode","a","b","x","y"] ["kind","number","mode","a","b"] (ay (top 85)):=bz
theorem JE (ak:Ev K mg C C2 C3):cw P w K mg base "function" ["kind","number","mode","a","b"] 10 (GY K C):=by
 have T:=ak.T;refine bc (ak.df 53) qC B5 (B6 fun f bw A outer s H Q E hr k n m x y h=>?_);obtain⟨⟨hm,hx,hy,n0,n5⟩,q⟩:=h;obtain⟨X,rfl⟩:=aA hx.2.1;obtain⟨Y,rfl⟩:=aA hy.2.1;refine⟨_,ah (aS (b8 bp (pv 1) (aG T.aaH rfl)) (aj (aq (pf (Uu ak) hr (aa (pv 0) (aa (pv 2) (aa (pv 3) (ae))))))) (aB)) (ah (aS (b8 bp (pv 0) (aG T.DOUBLE rfl)) (aj (aq (pf (zm ak) hr (aa (pv 1) (aa (pv 2) (aa (pv 3) (aa (pv 4) (ae)))))))) (aB)) (ah (sv 5 qC.nd (pf (l0 ak) hr (aa (pv 0) (aa (aG T.DOUBLE rfl) (aa (aG T.e8 rfl) (aa (pv 3) (ae))))))) (ah (sv 6 qC.nd (pf (l0 ak) hr (aa (pv 0) (aa (aG T.DOUBLE rfl) (aa (aG T.e8 rfl) (aa (pv 4) (ae))))))) (aj (aq (pf (l0 ak) hr (aa (aG T.DOUBLE rfl) (aa (pv 0) (aa (pv 2) (aa (pf (zm ak) hr (aa (pv 1) (aa (aG T.e8 rfl) (aa (pv 5) (aa (pv 6) (ae)))))) (ae))))))))))),aE rfl rfl rfl rfl (aK (fun h1=>aW rfl rfl rfl (e7 rfl ?p1 ⟨aI.refl _,?r1⟩)) (fun h1=>aE rfl rfl rfl rfl (aK (fun h2=>ax rfl rfl rfl rfl (gK rfl ?p2 ⟨aI.refl _,?r2⟩)) (fun h2=>aR rfl rfl (gK rfl ?p3 (aR rfl rfl (gK rfl ?p4 (ax rfl rfl rfl rfl (bg rfl (gK rfl ?p5 (gK rfl ?p6 ⟨aI.refl _,?r3⟩)))))))))))⟩
 case p1=>exact⟨hm,hx⟩
 case r1=>have e:=dt h1;subst e;exact q
 case p2=>have e:=dt h2;subst e;exact⟨hm,hx,hy⟩
 case r2=>have e:=dt h2;subst e;exact bD q (a7 (fun z:Nat=>(z:Int)) (UI n0 n5 (df h1) _ _ _).symm)
 case p3=>exact⟨me,ma,hx⟩
 case p4=>exact⟨me,ma,hy⟩
 case p5=>exact⟨me,jq (BF.ft _ BF.cH _ _),jq (BF.ft _ BF.cH _ _)⟩
 case p6=>exact⟨hm,hx.1,iw (k:=3) ma (RH _ _ _ _)⟩
 case r3=>exact bD q (a7 (fun z:Nat=>(z:Int)) (UJ hx.1 (df h2) n0 n5 (df h1) _ _ _).symm)
end
theorem rP:∀(l:List Int) (c:Int),BF.cj (l++[c])=BF.cj l+c*2^(8*l.length)
 | [],c=>by simp[BF.cj]
 | d::r,c=>by
  show d+256*BF.cj (r++[c])=d+256*BF.cj r+c*2^(8*(r.length+1));rw[rP r c,show 8*(r.length+1)=8*r.length+8 by omega,jk,show (2:Int)^8=256 from rfl];generalize (2:Int)^(8*r.length)=p;rw[Int.mul_add,Int.add_assoc,iL p 256,←DN,←DN,iL 256 c]
theorem JF {l:List Int} {i:Nat} {c:Int} (h:l[i]?=some c):BF.cj (l.take (i+1))=BF.cj (l.take i)+c*2^(8*i):=by
 have hi:=(hG.mp h).1;rw[sV,h,xS,rP,fN,mw Kk]
section
variable {P:Program} {w:World} {K:aP} {mg:Str→Option Value} {base:Heap} {C C2 C3:Addr}
def zX (K:aP) (C:Addr):Sp:=fun vs H Q _=>∃a l,vs=[.ref a]∧(bU K H a (l.map V.int))∧(BF.cS l∧l.length≤8)∧Q (.int (BF.cj l)) H
theorem iS:aD ["row","bits","place","byte"] ["row"] (ay (top 16)):=bz
theorem dr (ak:Ev K mg C C2 C3):cw P w K mg base "bits_of_row" ["row"] 1 (zX K C):=by
 have T:=ak.T;refine bc (ak.df 11) iS lu (lx fun f bw A outer s H Q E hr a l h=>?_);obtain⟨o1,⟨hb,hl⟩,q⟩:=h;refine⟨_,ah (sv 1 iS.nd (al)) (ah (nM PassesOwn.never rfl (Bj rfl T.qt (aa (pv 0) (ae))) (Am rfl (iT (eM (i:=2) iS.nd rfl (Or.inl rfl)) (iT (eM (i:=3) iS.nd rfl (Or.inl rfl)) (rh)))) (aj (sv 1 iS.nd (aH bX (pv 1) (aH dU (pv 3) (aH cK (al) (pv 2))))))) (aj (aq (pv 1)))),bP rfl rfl (o1) ?f1⟩
 case f1 =>
  refine oe l.length (fun i σ H'=>(∃p b,σ=[some (.ref a),some (.int (BF.cj (l.take i))),p,b])∧aI H H') ⟨⟨_,_,rfl⟩,aI.refl _⟩ ?_ ?_
  ·rintro i σ H' hi ⟨⟨p,b,rfl⟩,sm⟩;have hx:l[i]?=some (l[i]'hi):=bI hi;refine⟨⟨_,_,sm.seq o1,by rw[aT,hx];rfl⟩,?_⟩;rintro x H2 ⟨T,v,rfl,hT,rfl,hv⟩;have ex:=hv _ (sm.seq o1);rw[aT,hx] at ex;have hB:=hb _ (fT hi);generalize FP:l[i]'hi=c at *;obtain rfl:V.int c=v:=bM ex;refine⟨_,_,rfl,j5.of aL,rfl,_,_,rfl,_,_,rfl,rfl,aW rfl rfl rfl (bJ rfl rfl ?c1 (bJ rfl rfl ?c2 (bG rfl rfl ?e1)))⟩
   case c1=>exact⟨b6 Ke Ke,b6 Kk Ke⟩
   case c2=>exact⟨Kk,Kk,b6 Kk Ke⟩
   case e1 =>
    have e:=JF hx;rw[show 8*i=(8*(i:Int)).toNat by omega] at e;exact⟨⟨_,_,by rw[e];rfl⟩,sm.trans (ai hT)⟩
  ·rintro σ H' ⟨⟨p,b,rfl⟩,sm⟩;refine⟨⟨_,sm.seq o1,by simp⟩,?_⟩;refine bg rfl ⟨sm,?r1⟩
   case r1=>exact bD q (by rw[tR])
end
set_option smartUnfolding false
theorem mf {J:It} {g:TG} {te:TE} {vs:List Nat} {σ:L2.St} {H1:Hp} {D:Addr} {Qd:Hp→Prop} (n:Nat) (hn:n≤sizeLine) (hD:H1 D=none) (R:Nat→V→Hp→Prop)
  (mS:∀i v H H',aI H H'→R i v H→R i v H') (mD:∀i v H acc pH,H D=some (.lst acc)→R i v H→R i v (upd H D (.lst pH)))
  (hs:∀i H (Kx:V→Hp→Prop),i<n→aI H1 H→(∀v H4,aI H H4→R i v H4→Kx v H4)→J.go i H∧∀x H',J.Kn i H x H'→g x (wipe σ vs) H' fun σ2 H2=>wipe σ2 vs=wipe σ vs∧te σ2 H2 Kx)
  (he:∀H acc,aI H1 H→H D=some (.lst acc)→acc.length=n→(∀i v,acc[i]?=some v→R i v H)→J.stop n H∧Qd H) :
  ∃W:Nat→Nat→Hp→Prop,(∃m,W 0 m (upd H1 D (.lst [])))∧∀i m H,W i m H →
   (J.stop i H∧Qd H)∨(J.go i H∧∃Nx:Hp→Prop,(∀H',Nx H'→∃m',m'<m∧W (i+1) m' H')∧∀x H',J.Kn i H x H'→g x (wipe σ vs) H' fun σ2 H2=>wipe σ2 vs=wipe σ vs∧Vu σ2 H2 fun b H3 =>
    if b=true then te σ2 H3 fun y H4=>∃acc,H4 D=some (.lst acc)∧acc.length<sizeLine∧Nx (upd H4 D (.lst (acc++[y]))) else Nx H3):=by
 refine⟨fun i m H=>i≤n∧m=n-i∧aI H1 H∧∃acc,H D=some (.lst acc)∧acc.length=i∧∀j v,acc[j]?=some v→R j v H,⟨_,iC n,rfl,ai hD,[],aL,rfl,fun j v e=>by simp at e⟩,?_⟩;rintro i m H ⟨hi,rfl,sm,acc,ha,hl,hr⟩;rcases Nat.lt_or_eq_of_le hi with l | e
 ·have key:=hs i H (fun y H4=>∃acc,H4 D=some (.lst acc)∧acc.length<sizeLine∧(aI H1 (upd H4 D (.lst (acc++[y])))∧∃pH,(upd H4 D (.lst (acc++[y]))) D=some (.lst pH)∧pH.length=i+1∧∀j v,pH[j]?=some v→R j v (upd H4 D (.lst (acc++[y]))))) l sm fun v H4 s4 r4=>by
   have h4:H4 D=some (.lst acc):=s4 _ _ ha;refine⟨acc,h4,Kk,fun b o e=>?_,acc++[v],aL,by simp[hl],fun j u e=>?_⟩
   ·rw[b7 (fun z=>by rw[z,hD] at e;cases e)];exact s4 _ _ (sm _ _ e)
   ·refine mD _ _ _ acc _ h4 ?_;by_cases c:j<acc.length
    ·rw[uk c] at e;exact mS _ _ _ _ s4 (hr j u e)
    ·rw[uh Kk] at e;have hj:j=i:=by
      have:=(hG.mp e).1;simp at this;omega
     subst hj;rw[hl,Nat.sub_self] at e;obtain rfl:v=u:=by simpa using e
     exact r4
  refine .inr ⟨key.1,fun H'=>aI H1 H'∧∃pH,H' D=some (.lst pH)∧pH.length=i+1∧∀j v,pH[j]?=some v→R j v H',fun H' q=>⟨n-(i+1),Kk,l,rfl,q⟩,key.2⟩
 ·exact .inl (by rw[e];exact he H acc sm ha Kk hr)
theorem MW {acc:List V} {n:Nat} {f:Nat→Int} (hl:acc.length=n) (h:∀(i:Nat) (v:V),acc[i]?=some v→v=V.int (f i)):acc=((List.range n).map f).map V.int:=by
 refine j8 fun i=>?_;by_cases c:i<n
 ·rw[bI Kk,h i _ (bI Kk)];simp[c]
 ·rw[eP Kk,eP (by simp;omega)]
section
variable {P:Program} {w:World} {K:aP} {mg:Str→Option Value} {base:Heap} {C C2 C3:Addr}
def zY (K:aP) (C:Addr):Sp:=fun vs H Q _=>∃k x,vs=[.int k,.int x]∧(VK k∧0≤x)∧∀a H',aI H H'→H' a=some (.lst ((BF.ux (BF.fm k) x).map V.int))→Q (.ref a) H'
theorem lJ:aD ["kind","bits","place"] ["kind","bits"] (ay (top 17)):=bz
theorem CV (ak:Ev K mg C C2 C3):cw P w K mg base "row_of_bits" ["kind","bits"] 2 (zY K C):=by
 have T:=ak.T;refine cQ (ak.df 12) lJ lu (lx fun f bw A outer s H Q E hr k x h=>?_);obtain⟨hp,q⟩:=h;refine⟨_,aj (aq (uP rfl lJ.nd (uE rfl T.wN (aa (pf (jE ak) hr (aa (pv 0) (ae))) (ae))) (own:=[("place",2)]) (jl rfl) (fun _ _ _ _ _=>eM (i:=2) lJ.nd rfl (Or.inl rfl)) (fun _ _ _ _ _=>kh) (fun _ _ _ _ _=>aH Mo (aH Mn (pv 1) (aH cK (al) (pv 2))) (al)))),cP rfl rfl ?p1 (eH rfl ?c1 ⟨?c2,fun D1 yo=>?k1⟩)⟩
 case p1=>exact hp.1
 all_goals have JG:=BF.gA k
 case c1=>omega
 case c2=>omega
 case k1 =>
  refine mf (BF.nb (BF.fm k)).toNat (by have:=sP;unfold sizeLine;omega) yo (fun i v _=>v=.int (x/2^(8*i)%256)) (fun _ _ _ _ _ e=>e) (fun _ _ _ _ _ _ e=>e) ?_ ?_
  ·rintro i H' Kx hi si hK;refine⟨hi,?_⟩;rintro x1 H2 ⟨rfl,rfl⟩;refine⟨rfl,aR rfl rfl (bJ rfl rfl ?c3 (bJ rfl rfl ?c4 (bG rfl rfl ?e1)))⟩
   case c3=>exact⟨b6 Ke Ke,b6 Kk Ke⟩
   case c4=>show (0:Int)≤8*(0+i);omega
   case e1 =>
    refine hK _ _ (aI.refl _) (a7 V.int ?_);rw[show (8*(0+(i:Int))).toNat=8*i by omega];exact P7.vU 8 (f9 hp.2 (bo (BF.aX _)))
  ·intro H2 acc mX sj hl hv;have e:acc=(BF.ux (BF.fm k) x).map V.int:=by
    unfold BF.ux;exact MW hl fun i v e=>hv i v e
   subst e;refine⟨bB _,?_⟩;refine q _ _ (mX) (b4 (sj) ?r1)
   case r1=>rfl
end
theorem JH {X:Cx} {K:aP} {es:List Expr} {k:Nat} {t:HA} {n:Nat} {pos:Pos} (hK:X.K=K) (hc:X.calm=true) (h:Pt X es t)
  (hn:autoParam ((assignEach es X.env).length=n) cW) (qQ:autoParam ((assignEach es X.env).findIdx? (·.1)=none) cW):PG X (.Tuple es k pos) (Vk K n t):=by
 subst hK;exact Am hc h hn qQ
theorem RJ {L:List Nat} {j:Nat} (h:L.length=2^j):lD (List.map (fun (c:Nat)=>V.int c) L) 0=some (.int (L.headD 0:Nat)):=by
 cases L with
 | nil=>have:=cV j;simp at h;omega
 | cons x r=>unfold lD xO;simp
theorem UL (L:List Nat):gc (List.map (fun (c:Nat)=>V.int c) L) none (some (((List.map (fun (c:Nat)=>V.int c) L).length:Int)/2))=List.map (fun (c:Nat)=>V.int c) (L.take (L.length/2)):=by
 unfold gc;rw[aF,show ((L.length:Int)/2)=((L.length/2:Nat):Int) by omega,HT.sT,HT.oT,xI,Nat.sub_zero,oJ,mw Kk]
theorem UM (L:List Nat):gc (List.map (fun (c:Nat)=>V.int c) L) (some (((List.map (fun (c:Nat)=>V.int c) L).length:Int)/2)) none=List.map (fun (c:Nat)=>V.int c) (L.drop (L.length/2)):=by
 unfold gc;rw[aF,show ((L.length:Int)/2)=((L.length/2:Nat):Int) by omega,HT.sT,HT.oT,oN,mw Kk,ni (by simp)]
theorem yp (o:Int):1≤BF.fO o∧BF.fO o≤8:=by
 unfold BF.fO;split
 ·decide
 ·split
  ·decide
  ·split<;>decide
theorem OP (n:Nat):(List.replicate n [V.int 0]).flatten=List.replicate n (V.int 0):=by
 induction n with
 | zero=>rfl
 | succ n ih=>rw[mB,mB,uu,ih];rfl
theorem OQ {o:Int} (h:0≤o∧o≤3):lD [V.int 1,.int 2,.int 4,.int 8] o=some (.int (BF.fO o:Nat)):=by
 rcases BF.uw h.1 h.2 with rfl | rfl | rfl | rfl<;>rfl
section
variable {P:Program} {w:World} {K:aP} {mg:Str→Option Value} {base:Heap} {C C2 C3:Addr}
def w9 (K:aP) (C:Addr):Sp:=fun vs H Q _=>∃k x y,vs=[.int k,.int x,.int y]∧(VB k x∧VB k y)∧∀a H',aI H H'→eR C H' a (BF.gu (BF.ta (BF.fm k) x) (BF.ta (BF.fm k) y))→Q (.ref a) H'
theorem xc:aD ["kind","a","b"] ["kind","a","b"] (ay (top 106)):=bz
theorem pI (ak:Ev K mg C C2 C3):cw P w K mg base "exact_product" ["kind","a","b"] 5 (w9 K C):=by
 have T:=ak.T;refine cQ (ak.df 69) xc lY (lZ fun f bw A outer s H Q E hr k x y h=>?_);obtain⟨hp,q⟩:=h;refine⟨_,aj (aq (pf (Cp ak) hr (aa (pf (bA ak) hr (aa (pv 0) (aa (pv 1) (ae)))) (aa (pf (bA ak) hr (aa (pv 0) (aa (pv 2) (ae)))) (ae))))),br rfl rfl rfl ?p1 (fun a1 H1 s1 x1=>br rfl rfl rfl ?p2 (fun a2 H2 s2 x2=>iq rfl ((x1).same s2) (x2) ?p3 (fun a3 H3 s3 x3=>q _ _ (((s1).trans s2).trans s3) (gh (x3) ?r1))))⟩
 case p1=>exact hp.1
 case p2=>exact hp.2
 case p3=>exact⟨(cM hp.1).eb Ke Ke Ke,(cM hp.2).eb Ke Ke Ke⟩
 case r1=>rfl
def zZ (K:aP) (C:Addr):Sp:=fun vs H Q _=>∃o,vs=[.int o]∧(0≤o∧o≤3)∧∀a H',H a=none→aI H H'→H' a=some (.lst (List.replicate (BF.fO o) (V.int 0)))→Q (.ref a) H'
theorem z5:aD ["order"] ["order"] (ay (top 110)):=bz
theorem sk (ak:Ev K mg C C2 C3):cw P w K mg base "empty_lanes" ["order"] 1 (zZ K C):=by
 have T:=ak.T;refine cQ (ak.df 73) z5 tZ (ua fun f bw A outer s H Q E hr o h=>?_);obtain⟨hp,q⟩:=h;refine⟨_,aj (aq (aH S7 (dz (aa (al) (ae))) (ib T.Xw rfl (pv 0)))),⟨(by show _≤sizeLine;decide),fun l1 dE=>bP rfl rfl (OQ hp) (jt rfl rfl (aL) ⟨?c1,?c2,?c3,fun l2 fo=>?r1⟩)⟩⟩
 all_goals have lb:=yp o
 case c1=>omega
 case c2=>omega
 case c3=>show 1*_≤sizeLine;unfold sizeLine;omega
 case r1=>exact q _ _ ((ai dE).free fo) ((ai dE).trans (ai fo)) (b4 aL (by rw[aN];exact OP _))
def vk (K:aP) (C:Addr):Sp:=fun vs H Q _=>∃k m a l,vs=[.int k,.int m,.ref a]∧(bU K H a (List.map (fun (c:Nat)=>V.int c) l))∧(VM m∧VK k∧(∀x∈l,x<2*(BF.fm k).sign)∧∃j,j≤3∧l.length=2^j)∧Q (.int ((BF.fm k).halved (BF.md m) l.length l:Nat)) H
theorem gC:aD ["kind","mode","lanes","half","a","b"] ["kind","mode","lanes"] (ay (top 111)):=bz
theorem og (ak:Ev K mg C C2 C3):cw P w K mg base "lanes_together" ["kind","mode","lanes"] 6 (vk K C):=by
 have T:=ak.T;refine bc (ak.df 74) gC qU (qV fun f bw A outer s H Q E hr k m a l h=>?_);obtain⟨o1,⟨hm,hk,hx,j,hj,hl⟩,q⟩:=h;refine⟨_,ah (jQ PassesOwn.never (cy (b8 eY (bW cx rfl T.iu PySem.boot_len (aa (pv 2) (ae))) (al))) (ah (sv 3 gC.nd (aH ir (bW cx rfl T.iu PySem.boot_len (aa (pv 2) (ae))) (al))) (aj (EY (i:=2) rfl gC.nd rfl rfl (Ib rfl rfl rfl rfl) (Mu rfl T.Q9 (aa (eW fX (pv 2) (ja) (dT (pv 3))) (aa (eW fX (pv 2) (dT (pv 3)) (ja)) (ae)))) (own:=[("a",4),("b",5)]) (jl rfl) (fun _ _ _ _ _=>JH (K:=K) (n:=2) rfl rfl (iT (eM (i:=4) gC.nd rfl (Or.inl rfl)) (iT (eM (i:=5) gC.nd rfl (Or.inl rfl)) (rh)))) (fun _ _ _ _ _=>kh) (fun _ _ _ _ _=>pf (wZ ak) hr (aa (pv 0) (aa (pv 1) (aa (pv 4) (aa (pv 5) (ae)))))))))) (aj (aq (et aZ (pv 2) (al)))),?w1⟩
 case w1 =>
  refine gW (fun (L:List Nat) σ H'=>(∃a2 h3 h4 h5,σ=[some (.int k),some (.int m),some (.ref a2),h3,h4,h5]∧bU K H' a2 (List.map (fun (c:Nat)=>V.int c) L))∧aI H H'∧(∀x∈L,x<2*(BF.fm k).sign)∧∃j f,j≤f∧L.length=2^j∧L.length≤8∧(BF.fm k).halved (BF.md m) f L=(BF.fm k).halved (BF.md m) l.length l) (fun L=>L.length) l ?_ ?_
  ·exact⟨⟨_,_,_,_,rfl,o1⟩,aI.refl _,hx,j,l.length,by rw[hl];exact my Nat.lt_two_pow_self,hl,by rw[hl];exact fA Ke hj,rfl⟩
  ·rintro L σ H' ⟨⟨a2,h3,h4,h5,rfl,o2⟩,sm,Jz,j2,f,hf,OR,h8,hh⟩;refine⟨(decide (1<(L.length:Int))),bP rfl rfl (.inl (o2)) (ck rfl rfl rfl ?d1),aK (fun h1=>bP rfl rfl (.inl (o2)) (bJ rfl rfl (vc Ke Ke) (aW rfl rfl rfl (bG rfl (o2) (fun l1 dE=>aW rfl rfl rfl (bG rfl (((ai dE)).seq (o2)) (fun l2 fo=>gk rfl (bU.of (((ai fo) _ _ (aL)))) (bU.of (aL)) (fun D3 hD3=>?k1)))))))) (fun h1=>bT rfl rfl rfl (o2) (RJ OR) ⟨sm,?r1⟩)⟩
   case d1=>exact⟨by rw[aF],rfl⟩
   case r1 =>
    have hle:L.length≤1:=by have:=df h1;omega
    exact bD q (by rw[←hh,BF.IT _ _ _ hle])
   case k1 =>
    have hgt:1<L.length:=by have:=dt h1;omega
    have hev:L.length=2*(L.length/2):=by
     cases j2 with
     | zero=>simp at OR;omega
     | succ j=>rw[gZ] at OR;omega
    have e1:=UL L;have e2:=UM L;rw[e1,e2] at hD3 ⊢;rw[e1] at fo;generalize hA:L.take (L.length/2)=A at *;generalize hB:L.drop (L.length/2)=B at *;have la:A.length=L.length/2:=by rw[←hA,fN];omega
    have lb:B.length=L.length/2:=by rw[←hB,ez];omega
    have q1:upd (upd H' l1 (.lst (List.map (fun (c:Nat)=>V.int c) A))) l2 (.lst (List.map (fun (c:Nat)=>V.int c) B)) l1=some (.lst (List.map (fun (c:Nat)=>V.int c) A)):=ai fo _ _ aL;have q2:upd (upd H' l1 (.lst (List.map (fun (c:Nat)=>V.int c) A))) l2 (.lst (List.map (fun (c:Nat)=>V.int c) B)) l2=some (.lst (List.map (fun (c:Nat)=>V.int c) B)):=aL;have s12:aI H' (upd (upd H' l1 (.lst (List.map (fun (c:Nat)=>V.int c) A))) l2 (.lst (List.map (fun (c:Nat)=>V.int c) B))):=(ai dE).trans (ai fo);refine mf (L.length/2) (by unfold sizeLine;omega) hD3 (fun i v _=>∃x y,A[i]?=some x∧B[i]?=some y∧v=.int ((BF.fm k).add (BF.md m) x y:Nat)) (fun _ _ _ _ _ e=>e) (fun _ _ _ _ _ _ e=>e) ?_ ?_
    ·intro i Hi Kx hi si hK;have xa:A[i]?=some (A[i]'Kk):=bI Kk;have xb:B[i]?=some (B[i]'Kk):=bI Kk;refine⟨⟨_,_,_,_,bU.of (si _ _ q1),bU.of (si _ _ q2),by rw[aT,xa];rfl,by rw[aT,xb];rfl⟩,?_⟩;rintro v H2 ⟨T,x,y,rfl,hT,rfl,ha,hb⟩;have ex:=ha _ (bU.of (si _ _ q1));have ey:=hb _ (bU.of (si _ _ q2));rw[aT,xa] at ex;rw[aT,xb] at ey;have ba:A[i]'Kk<2*(BF.fm k).sign:=Jz _ (HX (i:=L.length/2) (by rw[hA];exact fT _));have bb:B[i]'Kk<2*(BF.fm k).sign:=Jz _ (List.mem_of_mem_drop (i:=L.length/2) (by rw[hB];exact fT _));generalize A[i]'Kk=c at *;generalize B[i]'Kk=d at *;obtain rfl:V.int (c:Int)=x:=bM ex;obtain rfl:V.int (d:Int)=y:=bM ey;refine⟨_,_,rfl,j5.of aL,rfl,_,_,rfl,_,_,rfl,rfl,⟨rfl,ax rfl rfl rfl rfl (gK rfl ?p1 ?e1)⟩⟩
     case p1=>exact⟨hm,iw hk ba,iw hk bb⟩
     case e1=>exact hK _ _ (ai hT) ⟨c,d,xa,xb,rfl⟩
    ·intro H2 acc mX sj hlen hv;refine⟨⟨_,_,bU.of (mX _ _ q1),bU.of (mX _ _ q2),.inl (by rw[aF];omega)⟩,?_⟩;have ea:acc=List.map (fun (c:Nat)=>V.int c) ((A.zip B).map fun (p:Nat×Nat)=>(BF.fm k).add (BF.md m) p.1 p.2):=by
      refine j8 fun i=>?_;by_cases c:i<L.length/2
      ·have hi:acc[i]?=some (acc[i]'Kk):=bI Kk;obtain⟨x,y,xa,xb,e⟩:=hv i _ hi;rw[hi,e,aT,aT,J7 (z:=(x,y)) |>.mpr ⟨xa,xb⟩];rfl
      ·rw[eP Kk,eP (by simp;omega)]
     refine ?e2
     case e2 =>
      obtain⟨f',rfl⟩:∃f',f=f'+1:=by
       cases f with
       | zero=>exfalso;obtain rfl:j2=0:=Kk;simp at OR;omega
       | succ f'=>exact⟨f',rfl⟩
      obtain⟨j',rfl⟩:∃j',j2=j'+1:=by
       cases j2 with
       | zero=>exfalso;simp at OR;omega
       | succ j'=>exact⟨j',rfl⟩
      have hg:=BF.Le (BF.fm k) (BF.md m) f' (l:=L) Kk;rw[hA,hB] at hg;have nl:((A.zip B).map fun (p:Nat×Nat)=>(BF.fm k).add (BF.md m) p.1 p.2).length=L.length/2:=by
       rw[aF,DU];omega
      refine⟨(A.zip B).map fun (p:Nat×Nat)=>(BF.fm k).add (BF.md m) p.1 p.2,⟨⟨_,_,_,_,rfl,bU.of (b4 sj ea)⟩,(sm.trans s12).trans mX,?_,j',f',Kk,by rw[nl,OR,gZ];omega,Kk,hg.symm.trans hh⟩,by rw[nl];omega⟩;intro x hx2;obtain⟨p,_,rfl⟩:=jy.mp hx2;exact BF.eA (BF.dm k) (BF.fM _ (BF.dm k) _ _ _)
end
structure OS (K:aP) (C2:Addr):Prop where
 cl:zx K C2
 total:gb K C2 "total"
def gm (C C2:Addr) (H:Hp) (b:Addr) (u:BF.Ex):Prop:=∃dx a,H b=some (.ins C2 dx [("total",.ref a)])∧eR C H a u
def SB (b:Addr) (H H':Hp):Prop:=∀c o,H c=some o→c≠b→H' c=some o
theorem XN {C C2:Addr} {H:Hp} {a b:Addr} {u:BF.Ex} {dx:Addr} {fs:List (Str×V)} (h:eR C H a u) (hb:H b=some (.ins C2 dx fs)) (hl:fs.length<5):a≠b:=by
 rintro rfl;obtain⟨OT,e⟩:=h;rw[hb] at e;injection e with e
 injection e with _ _ e3
 rw[e3] at hl;exact absurd hl (by show ¬5<5;decide)
def vm (C C2:Addr):Sp:=fun vs H Q _=>∃p dx,vs=[.ref p]∧H p=some (.ins C2 dx [])∧∀H':Hp,gm C C2 H' p (BF.gJ 0)→SB p H H'→Q .fV H'
def so (C C2:Addr):Sp:=fun vs H Q _=>∃b u,vs=[.ref b]∧gm C C2 H b u∧∀H':Hp,gm C C2 H' b (BF.gJ 0)→SB b H H'→Q .fV H'
def CW (C C2:Addr):Sp:=fun vs H Q _=>∃b a u v,vs=[.ref b,.ref a]∧gm C C2 H b u∧eR C H a v∧(EB u∧EB v)∧∀H':Hp,gm C C2 H' b (BF.cG .near u v)→SB b H H'→Q .fV H'
def kX (C C2:Addr):Sp:=fun vs H Q _=>∃b u k m,vs=[.ref b,.int k,.int m]∧gm C C2 H b u∧(VK k∧VM m∧PB u)∧Q (.int (if BF.bC u=true then BF.ws (BF.fm k) (BF.md m).isDown 0 else ((BF.fm k).ofKind (BF.md m) u.kind:Nat))) H
section
variable {P:Program} {w:World} {K:aP} {mg:Str→Option Value} {base:Heap} {C C2 C3:Addr}
theorem L1:aD ["self"] ["self"] (ay (inClass (top 105) 0)):=bz
theorem CY:aD ["self"] ["self"] (ay (inClass (top 105) 1)):=bz
theorem RK:aD ["self","u"] ["self","u"] (ay (inClass (top 105) 2)):=bz
theorem yq:aD ["self","kind","mode"] ["self","kind","mode"] (ay (inClass (top 105) 3)):=bz
abbrev JI (P:Program) (w:World) (K:aP) (mg:Str→Option Value) (base:Heap) (k:Nat) (f:Addr) (fd:FuncData) (ps:List Str) (sp:Sp):Prop:=jA P w K mg base Bo k f fd ps sp
theorem GZ {H1:Hp} {p a dx:Addr} {u:BF.Ex} {fs:List (Str×V)} (hp:H1 p=some (.ins C2 dx fs)) (hl:fs.length<5) (hf:kH "total" (V.ref a) fs=[((Str.ofString "total",V.ref a):Str×V)]) (x:eR C H1 a u) :
  gm C C2 (upd H1 p (.ins C2 dx (kH "total" (.ref a) fs))) p u:=by
 refine⟨dx,a,by rw[aL,hf],?_⟩;obtain⟨d,e⟩:=x;exact⟨d,by rw[b7 (XN ⟨d,e⟩ hp hl)];exact e⟩
theorem G0 {H H1:Hp} {p:Addr} {o:HO} (s:aI H H1):SB p H (upd H1 p o):=fun c u e n=>by rw[b7 n];exact s c u e
theorem OU {f:Addr} {fd:FuncData} (ak:Ev K mg C C2 C3) (c:OS K C2) (F:xR K "__init__" "Accumulator.__init__" (inClass (top 105) 0) f fd):JI P w K mg base 5 f fd ["self"] (vm C C2):=by
 refine F.ok L1 (fun vs H Q E h=>?_) (fun bw A outer s H vs Q E hr h=>?_)
 ·obtain⟨p,dx,rfl,_⟩:=h;rfl
 ·obtain⟨p,dx,rfl,hp,k⟩:=h;refine⟨_,aj (nO (pv 0) (pf (rX ak) hr (aa al ae)) rfl),?_⟩;exact⟨_,rfl,trivial,fun a1 H1 s1 x1=>⟨_,rfl,p,C2,dx,_,rfl,s1 _ _ hp,c.cl,c.total,(by show 0<1000;decide),k _ (GZ (s1 _ _ hp) Ke rfl x1) (G0 s1)⟩⟩
theorem Ep {f:Addr} {fd:FuncData} (ak:Ev K mg C C2 C3) (c:OS K C2) (F:xR K "make_empty" "Accumulator.make_empty" (inClass (top 105) 1) f fd):JI P w K mg base 5 f fd ["self"] (so C C2):=by
 refine F.ok CY (fun vs H Q E h=>?_) (fun bw A outer s H vs Q E hr h=>?_)
 ·obtain⟨p,dx,rfl,_⟩:=h;rfl
 ·obtain⟨p,u,rfl,⟨dx,a,hp,x⟩,k⟩:=h;refine⟨_,aj (nO (pv 0) (pf (rX ak) hr (aa al ae)) rfl),?_⟩;exact⟨_,rfl,trivial,fun a1 H1 s1 x1=>⟨_,rfl,p,C2,dx,_,rfl,s1 _ _ hp,c.cl,c.total,(by show 1<1000;decide),k _ (GZ (s1 _ _ hp) (by show 1<5;decide) rfl x1) (G0 s1)⟩⟩
theorem UO {f:Addr} {fd:FuncData} (ak:Ev K mg C C2 C3) (c:OS K C2) (F:xR K "take" "Accumulator.take" (inClass (top 105) 2) f fd):JI P w K mg base 5 f fd ["self","u"] (CW C C2):=by
 refine F.ok RK (fun vs H Q E h=>?_) (fun bw A outer s H vs Q E hr h=>?_)
 ·obtain⟨b,a,u,v,rfl,_⟩:=h;rfl
 ·obtain⟨b,a,u,v,rfl,⟨dx,a0,hb,x⟩,y,hp,k⟩:=h;refine⟨_,aj (nO (pv 0) (pf (wV ak) hr (aa (FU (pv 0) rfl) (aa (pv 1) (aa (aG ak.T.e8 rfl) ae)))) rfl),?_⟩;exact⟨_,rfl,b,C2,dx,_,_,rfl,hb,c.cl,c.total,rfl,_,rfl,_,_,_,_,_,rfl,x,y,⟨hp.1,hp.2,me⟩,fun a1 H1 s1 x1=>⟨_,rfl,b,C2,dx,_,rfl,s1 _ _ hb,c.cl,c.total,(by show 1<1000;decide),k _ (GZ (s1 _ _ hb) (by show 1<5;decide) rfl x1) (G0 s1)⟩⟩
theorem z6 {f:Addr} {fd:FuncData} (ak:Ev K mg C C2 C3) (c:OS K C2) (F:xR K "rounded_once" "Accumulator.rounded_once" (inClass (top 105) 3) f fd):JI P w K mg base 5 f fd ["self","kind","mode"] (kX C C2):=by
 refine F.ok yq (fun vs H Q E h=>?_) (fun bw A outer s H vs Q E hr h=>?_)
 ·obtain⟨b,u,k,m,rfl,_⟩:=h;rfl
 ·obtain⟨b,u,k,m,rfl,⟨dx,a0,hb,x⟩,⟨hk,hm,hp⟩,q⟩:=h;refine⟨_,ah (aS (aQ (pf (fP ak) hr (aa (FU (pv 0) rfl) ae))) (aj (aq (pf (fE ak) hr (aa (pv 1) (aa (iB bp (pv 2) (aG ak.T.Fw rfl)) (aa al ae)))))) aB) (aj (aq (pf (gg ak) hr (aa (pv 1) (aa (pv 2) (aa (FU (pv 0) rfl) ae)))))),?_⟩;refine⟨_,rfl,b,C2,dx,_,_,rfl,hb,c.cl,c.total,rfl,_,_,rfl,x,trivial,_,rfl,aK (fun h1=>⟨_,rfl,_,rfl,_,_,rfl,rfl,_,_,_,rfl,hk,?r1⟩) (fun h1=>⟨_,rfl,_,rfl,_,rfl,b,C2,dx,_,_,rfl,hb,c.cl,c.total,rfl,_,_,_,_,rfl,x,⟨hk,hm,hp⟩,?r2⟩)⟩
  case r1=>exact bD q (by rw[ao h1,Ck hm])
  case r2=>exact bD q (by rw[ag h1])
end
structure AB (n:Nat) (u:BF.Ex):Prop where
 s0:0≤u.size
 lo:-2148≤u.power
 hi:u.power≤4094
 sz:u.size*2^(u.power+2148).toNat≤(n:Int)*2^6350
theorem JJ {n m:Nat} {u:BF.Ex} (h:AB n u) (e:n≤m):AB m u :=
 ⟨h.s0,h.lo,h.hi,tS h.sz (i6 Kk (bo (BF.aX _)))⟩
theorem UQ {v:BF.Ex} (h:Wd (-2148) 4094 106 v):AB 1 v:=by
 refine⟨h.1,h.2.2.1,h.2.2.2,?_⟩;have a:v.size≤2^106:=by have:=h.2.1;unfold Sm at this;have e:=BF.bO 106;omega
 have b:(2:Int)^(v.power+2148).toNat≤2^6242:=BF.gP (by have:=h.2.2;omega);have c:v.size*2^(v.power+2148).toNat≤2^106*2^6242:=Int.mul_le_mul a b (bo (BF.aX _)) (bo (BF.aX _));rw[←jk] at c;have d:(2:Int)^(106+6242)≤2^6350:=BF.gP Ke;rw[J8,de];exact tS c d
theorem xf (n:Nat) {u:BF.Ex} (s:u.size=0) (lo:-2148≤u.power) (hi:u.power≤4094):AB n u:=by
 refine⟨Kk,lo,hi,?_⟩;rw[s,Int.zero_mul];exact fH Kk (bo (BF.aX _))
theorem o9 {u:BF.Ex} {p:Int} (h0:0≤u.size) (h:p≤u.power) (hl:-2148≤p):((BF.cnt u p).natAbs:Int)*2^(p+2148).toNat=u.size*2^(u.power+2148).toNat:=by
 have e:((BF.cnt u p).natAbs:Int)=u.size*2^(u.power-p).toNat:=by
  have nn:0≤u.size*2^(u.power-p).toNat:=fH h0 (bo (BF.aX _));unfold BF.cnt BF.eJ;split<;>omega
 rw[e,DN,←jk,show (u.power-p).toNat+(p+2148).toNat=(u.power+2148).toNat by omega]
theorem CZ {n:Nat} {m:Lw.Mode} {u v:BF.Ex} (hu:AB n u) (hv:Wd (-2148) 4094 106 v):AB (n+1) (BF.cG m u v):=by
 have RL:=UQ hv;have l1:=hu.lo;have l2:=RL.lo;have i1:=hu.hi;have i2:=RL.hi;unfold BF.cG;split
 ·exact xf _ rfl Ke Ke
 ·split
  ·exact xf _ rfl Ke Ke
  ·split
   ·split
    ·exact JJ hu Kk
    ·exact JJ RL Kk
   ·dsimp only;split
    ·exact xf _ rfl (by show -2148≤min u.power v.power;omega) (by show min u.power v.power≤4094;omega)
    ·refine⟨by show (0:Int)≤((_:Nat):Int);omega,by show -2148≤min u.power v.power;omega,by show min u.power v.power≤4094;omega,?_⟩;show ((BF.cnt u (min u.power v.power)+BF.cnt v (min u.power v.power)).natAbs:Int)*2^(min u.power v.power+2148).toNat≤_;have a:=o9 (u:=u) (p:=min u.power v.power) hu.s0 Kk Kk;have b:=o9 (u:=v) (p:=min u.power v.power) RL.s0 Kk Kk;have c:((BF.cnt u (min u.power v.power)+BF.cnt v (min u.power v.power)).natAbs:Int)≤((BF.cnt u (min u.power v.power)).natAbs:Int)+((BF.cnt v (min u.power v.power)).natAbs:Int):=by omega
     have d:=i6 c (bo (BF.aX (min u.power v.power+2148).toNat));rw[lC,a,b] at d;have s1:=hu.sz;have s2:=RL.sz;rw[J8,de] at s2;rw[cJ,J8,lC,de];exact tS d (Int.add_le_add s1 s2)
theorem AB.pb {n:Nat} {u:BF.Ex} (h:AB n u) (hn:n≤2^64):PB u:=by
 have a:u.size≤u.size*2^(u.power+2148).toNat:=by
  have:=qD (show (1:Int)≤2^(u.power+2148).toNat from BF.aX _) h.s0;rwa [Int.mul_one] at this
 have b:(n:Int)*2^6350≤2^64*2^6350:=i6 Kk (bo (BF.aX _));rw[←jk] at b;have c:(2:Int)^(64+6350)<2^8800:=Int.pow_lt_pow_of_lt Ke Ke;exact⟨h.s0,Ri h.s0 (qZ (tS a (tS h.sz b)) c),by have:=h.lo;omega,by have:=h.hi;omega⟩
theorem tL:AB 0 (BF.gJ 0):=xf _ rfl Ke Ke
theorem G1 {k x:Int} (h:VB k x):Wd (-2148) 4094 106 (BF.ta (BF.fm k) x):=(cM h).mono Ke Ke Ke
theorem xg {k x y:Int} (h:VB k x) (h2:VB k y):Wd (-2148) 4094 106 (BF.gu (BF.ta (BF.fm k) x) (BF.ta (BF.fm k) y)):=tG (cM h) (cM h2) Ke Ke
def UR (K:aP) (C:Addr) (H:Hp) (a:Addr) (us:List BF.Ex):Prop:=∃rs:List Addr,bU K H a (rs.map V.ref)∧rs.length=us.length∧∀(i:Nat) (r:Addr) (u:BF.Ex),rs[i]?=some r→us[i]?=some u→eR C H r u
structure vn (P:Program) (w:World) (K:aP) (mg:Str→Option Value) (base:Heap) (C C2:Addr):Prop where
 c:OS K C2
 name:mg "Accumulator"=some (.ref C2)
 init:∃f fd,Mk K C2 f∧JI P w K mg base 5 f fd ["self"] (vm C C2)∧Binds K fd ["self"] []
 empty:∃f fd,EO K C2 "make_empty" f∧JI P w K mg base 5 f fd ["self"] (so C C2)∧Binds K fd ["self"] []
 take:∃f fd,EO K C2 "take" f∧JI P w K mg base 5 f fd ["self","u"] (CW C C2)∧Binds K fd ["self","u"] []
 once:∃f fd,EO K C2 "rounded_once" f∧JI P w K mg base 5 f fd ["self","kind","mode"] (kX C C2)∧Binds K fd ["self","kind","mode"] []
section
variable {X:Cx} {C C2:Addr} {k:Nat} {p pos apos:Pos} {e o:Expr} {es:List Expr} {t:TA} {ta:TE}
theorem MX (h:vn X.prog X.w X.K X.mg X.base C C2) (hr:fk k X.A) (hk:6≤k) (hg:Gl X "Accumulator"):PE X (.Call (.Name "Accumulator" p) [] [] pos) (PQ C2 (vm C C2) [] E0 ER):=by
 obtain⟨f,fd,M,F,hb⟩:=h.init;exact Nv M F (hr.mono hk) hg h.name hb .nil qd
theorem RM (h:vn X.prog X.w X.K X.mg X.base C C2) (hr:fk k X.A) (hk:5≤k) (he:PE X o ta) (ha:PA X (e::es) t)
  (qQ:autoParam (starEach (e::es) X.env=(false,eval e X.env)::starEach es X.env) cW) (gH:autoParam ((backTo pos (starEach es X.env)).any (·.1)=false) cW) {pl:Sem Bool}
  (ht:autoParam (eval (.Call (.Attribute o "take" apos) (e::es) [] pos) X.env=(do
   let ov ←eval o X.env
   standAt apos.atName
   let (f,first) ←holding [ov] (getMethod ov "take" pl)
   callWith pos f first (backTo pos (starEach (e::es) X.env)) (backToKw pos (keywordEach [] X.env)))) cW):PE X (.Call (.Attribute o "take" apos) (e::es) [] pos) (Ku C2 "take" (CW C C2) [] E0 ta t):=by
 obtain⟨f,fd,M,F,hb⟩:=h.take;exact HP he h.c.cl M F (hr.mono hk) hb .nil qd ha qQ gH ht
theorem RN (h:vn X.prog X.w X.K X.mg X.base C C2) (hr:fk k X.A) (hk:5≤k) (he:PE X o ta) (ha:PA X (e::es) t)
  (qQ:autoParam (starEach (e::es) X.env=(false,eval e X.env)::starEach es X.env) cW) (gH:autoParam ((backTo pos (starEach es X.env)).any (·.1)=false) cW) {pl:Sem Bool}
  (ht:autoParam (eval (.Call (.Attribute o "rounded_once" apos) (e::es) [] pos) X.env=(do
   let ov ←eval o X.env
   standAt apos.atName
   let (f,first) ←holding [ov] (getMethod ov "rounded_once" pl)
   callWith pos f first (backTo pos (starEach (e::es) X.env)) (backToKw pos (keywordEach [] X.env)))) cW):PE X (.Call (.Attribute o "rounded_once" apos) (e::es) [] pos) (Ku C2 "rounded_once" (kX C C2) [] E0 ta t):=by
 obtain⟨f,fd,M,F,hb⟩:=h.once;exact HP he h.c.cl M F (hr.mono hk) hb .nil qd ha qQ gH ht
end
def vo (us:List BF.Ex):BF.Ex:=us.foldl (fun u v=>BF.cG .near u v) (BF.gJ 0)
theorem FE (us:List BF.Ex) (h:∀u∈us,Wd (-2148) 4094 106 u):∀{n:Nat} {u0:BF.Ex},AB n u0→AB (n+us.length) (us.foldl (fun u v=>BF.cG .near u v) u0):=by
 induction us with
 | nil=>intro n u0 a;exact a
 | cons v r ih =>
  intro n u0 a;have:=ih (fun u hu=>h u (by simp[hu])) (CZ (m:=.near) a (h v (by simp)));rw[show n+1+r.length=n+(v::r).length by simp;omega] at this;exact this
theorem RO (us:List BF.Ex) (h:∀u∈us,0≤u.size):∀{a:Lw.LongSum} {u0:BF.Ex},BF.Rel a u0→BF.Rel ((us.map BF.Ex.kind).foldl Lw.LongSum.add a) (us.foldl (fun u v=>BF.cG .near u v) u0):=by
 induction us with
 | nil=>intro a u0 r;exact r
 | cons v r ih=>intro a u0 hr;exact ih (fun u hu=>h u (by simp[hu])) (BF.BU hr (h v (by simp)))
theorem L3 (t:Lw.Fmt) (m:Lw.Mode) (us:List BF.Ex) (h:∀u∈us,0≤u.size):(BF.kS t m (us.map BF.Ex.kind):Int)=if BF.bC (vo us)=true then BF.ws t m.isDown 0 else (t.ofKind m (vo us).kind:Nat):=by
 unfold BF.kS;rw[BF.IJ t m (RO us h BF.u6)];show _=if BF.bC (us.foldl (fun u v=>BF.cG .near u v) (BF.gJ 0))=true then _ else _
 split
 ·exact BF.o8 t m.isDown
 ·rfl
def Es (K:aP) (C:Addr):Sp:=fun vs H Q _=>∃k m a us,vs=[.int k,.int m,.ref a]∧UR K C H a us∧(VK k∧VM m∧(∀u∈us,Wd (-2148) 4094 106 u)∧us.length≤1000)∧Q (.int (BF.kS (BF.fm k) (BF.md m) (us.map BF.Ex.kind):Nat)) H
theorem oC:aD ["kind","mode","terms","accumulator","term"] ["kind","mode","terms"] (ay (top 107)):=bz
theorem L4 {us:List BF.Ex} {i:Nat} {v:BF.Ex} (h:us[i]?=some v):vo (us.take (i+1))=BF.cG .near (vo (us.take i)) v:=by
 unfold vo;rw[sV,h,xS,xF];rfl
theorem JK {H H1 H2:Hp} {b:Addr} (s:aI H H1) (nb:H b=none) (k:SB b H1 H2):aI H H2:=fun c o e=>k c o (s c o e) (dc e nb)
section
variable {P:Program} {w:World} {K:aP} {mg:Str→Option Value} {base:Heap} {C C2 C3:Addr}
theorem zo (ak:Ev K mg C C2 C3):vn P w K mg base C C2:=by
 obtain⟨h,X,G⟩:=ak.h;obtain⟨cA,nA,m0,m1,m2,m3⟩:=ak.ac;obtain⟨f0,d0,e0,F0⟩:=Ch m0;obtain⟨f1,d1,e1,F1⟩:=Ch m1;obtain⟨f2,d2,e2,F2⟩:=Ch m2;obtain⟨f3,d3,e3,F3⟩:=Ch m3;have cc:OS K C2:=⟨cA.cl,nA⟩;exact⟨cc,PySem.W.mg_of X G cA.at_,⟨f0,d0,⟨cA.ZH,e0.at_,e0.fn,cA.kp⟩,OU ak cc F0,F0.binds fun _ _ _ _ _ _=>BF.zF fun _=>rfl⟩,⟨f1,d1,e1,Ep ak cc F1,F1.binds fun _ _ _ _ _ _=>BF.zF fun _=>rfl⟩,
  ⟨f2,d2,e2,UO ak cc F2,F2.binds fun _ _ _ _ _ _=>BF.zG fun _ _=>rfl⟩,⟨f3,d3,e3,z6 ak cc F3,F3.binds fun _ _ _ _ _ _=>BF.B0 fun _ _ _=>rfl⟩⟩
theorem xh (ak:Ev K mg C C2 C3):cw P w K mg base "exact_sum" ["kind","mode","terms"] 7 (Es K C):=by
 refine bc (ak.df 70) oC qU (qV fun f bw A outer s H Q E hr k m a us h=>?_);obtain⟨hx,⟨hk,hm,hw,hn⟩,q⟩:=h;refine⟨_,ah (sv 3 oC.nd (MX (zo ak) hr Ke rfl)) (ah (nM PassesOwn.never rfl (oQ (pv 2)) (eM (i:=4) oC.nd rfl (Or.inl rfl)) (aj (mv (RM (zo ak) hr Ke (pv 3) (aa (pv 4) ae))))) (aj (aq (RN (zo ak) hr Ke (pv 3) (aa (pv 0) (aa (pv 1) ae)))))),?_⟩;intro b dx nb nd ne;refine⟨b,dx,rfl,aL,fun H1 ac sb=>⟨rfl,?_⟩⟩;have s1:aI H H1:=aI.made nb nd sb;obtain⟨rs,sq,hl,hx⟩:=hx;refine⟨_,rfl,_,rfl,⟨_,s1.seq sq⟩,?_⟩;refine oe us.length (fun i σ H'=>(∃t,σ=[some (.int k),some (.int m),some (.ref a),some (.ref b),t])∧aI H H'∧gm C C2 H' b (vo (us.take i))) ⟨⟨_,rfl⟩,s1,ac⟩ ?_ ?_
 ·rintro i σ H' hi ⟨⟨t,rfl⟩,sm,acc⟩;have e1:rs[i]?=some (rs[i]'Kk):=bI Kk;have e2:us[i]?=some (us[i]'hi):=bI hi;refine⟨⟨_,_,sm.seq sq,by rw[aT,e1];rfl⟩,?_⟩;rintro v H2 ⟨rfl,hv⟩;have ev:=hv _ (sm.seq sq);rw[aT,e1] at ev;have x:=(hx i _ _ e1 e2).same sm;have wv:=hw _ (fT hi);generalize us[i]'hi=u at *;generalize rs[i]'Kk=r at *;obtain rfl:V.ref r=v:=bM ev;obtain⟨OT,a0,hb,xa⟩:=acc;have ab:AB i (vo (us.take i)):=by
   have:=FE (us.take i) (fun u hu=>hw u (HX hu)) tL;rw[fN,mw Kk,lF] at this;exact this
  refine⟨_,rfl,b,OT,_,rfl,hb,rfl,_,rfl,b,r,_,_,rfl,⟨OT,a0,hb,xa⟩,x,⟨(ab.pb Kk).eb,wv.eb Ke Ke Ke⟩,fun H3 ac3 Wy=>?_⟩;exact⟨⟨_,rfl⟩,JK sm nb Wy,by rw[L4 e2];exact ac3⟩
 ·rintro σ H' ⟨⟨t,rfl⟩,sm,acc⟩;refine⟨⟨_,sm.seq sq,by simp[hl]⟩,?_⟩;rw[tR] at acc;obtain⟨OT,a0,hb,xa⟩:=acc;have ab:=FE us hw tL;rw[lF] at ab;refine⟨_,rfl,b,OT,_,rfl,hb,rfl,_,rfl,_,rfl,b,_,_,_,rfl,⟨OT,a0,hb,xa⟩,⟨hk,hm,ab.pb Kk⟩,sm,?_⟩;exact bD q (L3 _ _ us fun u hu=>(hw u hu).1).symm
end
theorem C0 {L:List Nat} {i:Nat} (h:0<L.length):xO (List.map (fun (c:Nat)=>V.int c) L).length ((i:Int)%((List.map (fun (c:Nat)=>V.int c) L).length:Int))=some (i%L.length):=by
 rw[aF];have e:(i:Int)%(L.length:Int)=((i%L.length:Nat):Int):=by omega
 rw[e];have:=fK i h;unfold xO;rw[ao Kk,ao Kk,aN]
theorem JL {L:List Nat} {i v:Nat} (h:0<L.length) (hv:L[i%L.length]?=some v):lD (List.map (fun (c:Nat)=>V.int c) L) ((i:Int)%((List.map (fun (c:Nat)=>V.int c) L).length:Int))=some (.int v):=by
 unfold lD;rw[C0 h,yH,aT,hv];rfl
theorem C4 {C:Addr} {H:Hp} {a D:Addr} {u:BF.Ex} {acc pH:List V} (hD:H D=some (.lst acc)) (x:eR C H a u):eR C (upd H D (.lst pH)) a u:=by
 obtain⟨dx,e⟩:=x;exact⟨dx,by rw[b7 (fun z=>by rw[z,hD] at e;cases e)];exact e⟩
theorem MY {K:aP} {C:Addr} {H:Hp} {D:Addr} {acc:List V} {us:List BF.Ex} (ha:H D=some (.lst acc)) (hl:acc.length=us.length) (hv:∀(i:Nat) (v:V),acc[i]?=some v→∃r u,v=.ref r∧us[i]?=some u∧eR C H r u):UR K C H D us:=by
 have e:acc=(acc.map fun v=>match v with | .ref r=>r | _=>0).map V.ref:=by
  rw[ju];refine j8 fun i=>?_;rw[aT];cases h:acc[i]? with
  | none=>rfl
  | some v =>
   obtain⟨r,u,e,_⟩:=hv i v h;subst e;rfl
 refine⟨acc.map fun v=>match v with | .ref r=>r | _=>0,.inl (.inl (by rw[←e];exact ha)),by rw[aF];exact hl,fun i r u h1 h2=>?_⟩;rw[aT] at h1;cases h:acc[i]? with
 | none=>rw[h] at h1;cases h1
 | some v =>
  obtain⟨r',u',e,h3,x⟩:=hv i v h;subst e;rw[h] at h1;obtain rfl:r'=r:=bM h1;rw[h2] at h3;obtain rfl:u=u':=bM h3;exact x
theorem xj {α:Type} {t:Lw.Fmt} {g:Nat→α→Nat} {n:Nat} {l:List α} (hg:∀s x,g s x<2*t.sign) (ht:BF.Ok t):∀y∈BF.f6 g n l,y<2*t.sign:=by
 intro y hy;unfold BF.f6 at hy;obtain⟨i,_,rfl⟩:=jy.mp hy;rcases List.eq_nil_or_concat (Lw.every n i l) with e | ⟨r,b,e⟩
 ·rw[e];have:=BF.eA ht (BF.o7 t ht false);show 0<2*t.sign;omega
 ·rw[e,List.concat_eq_append,xF];exact hg _ _
theorem C5 {α:Type} (g:Nat→α→Nat) {n i:Nat} {l:List α} {c:α} (hn:0<n) (h:l[i]?=some c):∃v,(BF.f6 g n (l.take i))[i%(BF.f6 g n (l.take i)).length]?=some v∧BF.f6 g n (l.take (i+1))=(BF.f6 g n (l.take i)).set (i%(BF.f6 g n (l.take i)).length) (g v c):=by
 have hi:=(hG.mp h).1;have lt:(l.take i).length=i:=by rw[fN];omega
 have ln:(BF.f6 g n (l.take i)).length=n:=BF.iW _ _ _;obtain⟨v,hv⟩:∃v,(BF.f6 g n (l.take i))[i%n]?=some v:=⟨_,bI (by rw[ln];exact fK _ hn)⟩;refine⟨v,by rw[ln];exact hv,?_⟩;rw[sV,h,xS,BF.Lb g hn (l.take i) c (by rw[lt];exact hv),lt,ln]
theorem C6 (o:Int):∃j,j≤3∧BF.fO o=2^j:=by
 unfold BF.fO;split
 ·exact⟨0,Ke,rfl⟩
 ·split
  ·exact⟨1,Ke,rfl⟩
  ·split
   ·exact⟨2,Ke,rfl⟩
   ·exact⟨3,Ke,rfl⟩
section
variable {P:Program} {w:World} {K:aP} {mg:Str→Option Value} {base:Heap} {C C2 C3:Addr}
def vq (K:aP) (C:Addr):Sp:=fun vs H Q _=>∃k o m a l,vs=[.int k,.int o,.int m,.ref a]∧(bU K H a (List.map (fun (c:Nat)=>V.int c) l))∧(VM m∧VK k∧(0≤o∧o≤4)∧(∀x∈l,x<2*(BF.fm k).sign)∧l.length≤64)∧Q (.int (BF.Fj (BF.fm k) (BF.md m) o l:Nat)) H
theorem fj:aD ["kind","order","mode","numbers","a","lanes","turn","lane"] ["kind","order","mode","numbers"] (ay (top 108)):=bz
theorem xk (ak:Ev K mg C C2 C3):cw P w K mg base "sum_of_numbers" ["kind","order","mode","numbers"] 8 (vq K C):=by
 have T:=ak.T;refine bc (ak.df 71) fj B5 (B6 fun f bw A outer s H Q E hr k o m a l h=>?_);obtain⟨o1,⟨hm,hk,ho,hx,hl⟩,q⟩:=h;refine⟨_,ah (aS (b8 bp (pv 1) (aG T.wM rfl)) (aj (aq (pf (xh ak) hr (aa (pv 0) (aa (pv 2) (aa (uP rfl fj.nd (oQ (pv 3)) (own:=[("a",4)]) (jl rfl) (fun _ _ _ _ _=>eM (i:=4) fj.nd rfl (Or.inl rfl)) (fun _ _ _ _ _=>kh) (fun _ _ _ _ _=>pf (bA ak) hr (aa (pv 0) (aa (pv 4) (ae))))) (ae))))))) (aB)) (ah (sv 5 fj.nd (pf (sk ak) hr (aa (pv 1) (ae)))) (ah (nM PassesOwn.never rfl (Bj rfl T.qt (aa (pv 3) (ae))) (Am rfl (iT (eM (i:=6) fj.nd rfl (Or.inl rfl)) (iT (eM (i:=4) fj.nd rfl (Or.inl rfl)) (rh)))) (ah (sv 7 fj.nd (aH jG (pv 6) (bW cx rfl T.iu PySem.boot_len (aa (pv 5) (ae))))) (aj (Mi (pf (wZ ak) hr (aa (pv 0) (aa (pv 2) (aa (et aZ (pv 5) (pv 7)) (aa (pv 4) (ae)))))) (Mg (pv 5) (pv 7) set_list))))) (aj (aq (pf (og ak) hr (aa (pv 0) (aa (pv 2) (aa (pv 5) (ae))))))))),aE rfl rfl rfl rfl (aK (fun h1=>aW rfl rfl rfl (eH rfl ⟨_,(o1)⟩ (fun D1 yo=>?k1))) (fun h1=>cP rfl rfl ?p3 (fun a3 H3 n3 s3 x3=>bP rfl rfl ((s3).seq (o1)) ?f1)))⟩
 case p3=>have:=df h1;omega
 case k1 =>
  have e4:=dt h1;refine mf l.length (by unfold sizeLine;omega) yo (fun i v Hx=>∃r u,v=.ref r∧l[i]?=some u∧eR C Hx r (BF.ta (BF.fm k) (u:Nat))) (fun i v Hx Hy XQ ⟨r,u,e,g,x⟩=>⟨r,u,e,g,x.same XQ⟩) (fun i v Hx acc pH hD ⟨r,u,e,g,x⟩=>⟨r,u,e,g,C4 hD x⟩) ?_ ?_
  ·intro i Hi Kx hi si hK;have xa:l[i]?=some (l[i]'hi):=bI hi;refine⟨⟨_,_,si.seq o1,by rw[aT,xa];rfl⟩,?_⟩;rintro v H2 ⟨rfl,ha⟩;have ex:=ha _ (si.seq o1);rw[aT,xa] at ex;have ba:=hx _ (fT hi);generalize l[i]'hi=c at *;obtain rfl:V.int (c:Int)=v:=bM ex;refine⟨rfl,br rfl rfl rfl ?p1 (fun a2 H2 s2 x2=>?e1)⟩
   case p1=>exact iw hk ba
   case e1=>exact hK _ _ s2 ⟨a2,c,rfl,xa,x2⟩
  ·intro H2 acc mX ha hlen hv;have sj:UR K C H2 D1 (l.map fun (x:Nat)=>BF.ta (BF.fm k) x):=by
    exact MY ha (by rw[aF];exact hlen) fun i v e=>by
     obtain⟨r,u,e1,e2,x⟩:=hv i v e;exact⟨r,_,e1,by rw[aT,e2];rfl,x⟩
   refine⟨⟨_,mX.seq o1,by simp⟩,?_⟩;refine gk rfl (sj) ?p2 ⟨mX,?r1⟩
   case p2=>exact⟨hk,hm,fun u hu=>by
    obtain⟨x,XR,rfl⟩:=jy.mp hu;exact G1 (iw hk (hx x XR)),by rw[aF];omega⟩
   case r1 =>
    refine bD q ?_;unfold BF.Fj;rw[ao e4,ju];congr 2;exact xH fun x XR=>BF.cY _ _ (hx x XR)
 case f1 =>
  have n8:=yp o;refine oe l.length (fun i σ H'=>(∃t4 t6 t7,σ=[some (.int k),some (.int o),some (.int m),some (.ref a),t4,some (.ref a3),t6,t7])∧aI H H'∧H' a3=some (.lst (List.map (fun (c:Nat)=>V.int c) (BF.f6 ((BF.fm k).add (BF.md m)) (BF.fO o) (l.take i))))) ?_ ?_ ?_
  ·refine⟨⟨_,_,_,rfl⟩,s3,b4 x3 ?_⟩;rw[DO,BF.Fh,List.map_replicate];rfl
  ·rintro i σ H' hi ⟨⟨t4,t6,t7,rfl⟩,sm,zE⟩;have xa:l[i]?=some (l[i]'hi):=bI hi;refine⟨⟨_,_,sm.seq o1,by rw[aT,xa];rfl⟩,?_⟩;rintro v0 H2 ⟨T,v,rfl,hT,rfl,Qs⟩;have ex:=Qs _ (sm.seq o1);rw[aT,xa] at ex;have ba:=hx _ (fT hi);generalize l[i]'hi=c at *;obtain rfl:V.int (c:Int)=v:=bM ex;have hLn:(BF.f6 ((BF.fm k).add (BF.md m)) (BF.fO o) (l.take i)).length=BF.fO o:=BF.iW _ _ _;have hL:0<(BF.f6 ((BF.fm k).add (BF.md m)) (BF.fO o) (l.take i)).length:=by omega
   obtain⟨vv,hv,sn⟩:=C5 ((BF.fm k).add (BF.md m)) (n:=BF.fO o) Kk xa;have bv:vv<2*(BF.fm k).sign:=xj (fun s x=>BF.eA (BF.dm k) (BF.fM _ (BF.dm k) _ _ _)) (BF.dm k) _ (uq hv);refine⟨_,_,rfl,j5.of aL,rfl,_,_,rfl,_,_,rfl,rfl,br rfl rfl rfl (.inl (bU.of (((ai hT) _ _ (zE))))) (bJ rfl rfl ?c1 (ax rfl rfl rfl rfl (iq rfl rfl (bU.of (((ai hT) _ _ (zE)))) (JL hL hv) (bg rfl (gK rfl ?p4 (aR rfl rfl (iq rfl rfl (((ai hT) _ _ (zE))) (C0 hL) ?e2)))))))⟩
   case c1=>show (0:Int)<((_:Nat):Int);rw[aF];omega
   case p4=>exact⟨hm,iw hk bv,iw hk ba⟩
   case e2=>exact⟨⟨_,_,_,rfl⟩,fun b u e=>by rw[b7 (dc e n3)];exact ai hT _ _ (sm _ _ e),by rw[sn,List.map_set];exact aL⟩
  ·rintro σ H' ⟨⟨t4,t6,t7,rfl⟩,sm,zE⟩;refine⟨⟨_,sm.seq o1,by simp⟩,?_⟩;refine aW rfl rfl rfl (gk rfl (bU.of (zE)) ?p5 ⟨sm,?r2⟩)
   case p5 =>
    refine⟨hm,hk,xj (fun s x=>BF.eA (BF.dm k) (BF.fM _ (BF.dm k) _ _ _)) (BF.dm k),?_⟩;rw[BF.iW];exact C6 o
   case r2 =>
    refine bD q ?_;unfold BF.Fj BF.px;rw[ag (df h1),BF.iW,tR]
end
set_option smartUnfolding true
theorem US {l:List Nat} {i v:Nat} (h:l[i]?=some v):lD (List.map (fun (c:Nat)=>V.int c) l) ((i:Nat):Int)=some (.int v):=by
 have hi:=(hG.mp h).1;unfold lD xO;rw[aF,ao Kk,ao Kk,yH,aN,aT,h];rfl
section
variable {P:Program} {w:World} {K:aP} {mg:Str→Option Value} {base:Heap} {C C2 C3:Addr}
def ue (K:aP) (C:Addr):Sp:=fun vs H Q _=>∃k o m a b l r,vs=[.int k,.int o,.int m,.ref a,.ref b]∧(bU K H a (List.map (fun (c:Nat)=>V.int c) l))∧(bU K H b (List.map (fun (c:Nat)=>V.int c) r))∧(VM m∧VK k∧(0≤o∧o≤4)∧(∀x∈l,x<2*(BF.fm k).sign)∧(∀x∈r,x<2*(BF.fm k).sign)∧l.length≤64∧r.length=l.length)∧Q (.int (BF.Fm (BF.fm k) (BF.md m) o (l.zip r):Nat)) H
theorem ek:aD ["kind","order","mode","numbers","others","a","b","lanes","turn","lane"] ["kind","order","mode","numbers","others"] (ay (top 109)):=bz
theorem vt (ak:Ev K mg C C2 C3):cw P w K mg base "sum_of_products" ["kind","order","mode","numbers","others"] 8 (ue K C):=by
 have T:=ak.T;refine bc (ak.df 72) ek Xe (Xg fun f bw A outer s H Q E hr k o m a b l r h=>?_);obtain⟨o1,o2,⟨hm,hk,ho,hx,hy,hl,hr2⟩,q⟩:=h;refine⟨_,ah (aS (b8 bp (pv 1) (aG T.wM rfl)) (aj (aq (pf (xh ak) hr (aa (pv 0) (aa (pv 2) (aa (uP rfl ek.nd (Mu rfl T.Q9 (aa (pv 3) (aa (pv 4) (ae)))) (own:=[("a",5),("b",6)]) (jl rfl) (fun _ _ _ _ _=>JH (K:=K) (n:=2) rfl rfl (iT (eM (i:=5) ek.nd rfl (Or.inl rfl)) (iT (eM (i:=6) ek.nd rfl (Or.inl rfl)) (rh)))) (fun _ _ _ _ _=>kh) (fun _ _ _ _ _=>pf (pI ak) hr (aa (pv 0) (aa (pv 5) (aa (pv 6) (ae)))))) (ae))))))) (aB)) (ah (sv 7 ek.nd (pf (sk ak) hr (aa (pv 1) (ae)))) (ah (nM PassesOwn.never rfl (Bj rfl T.qt (aa (pv 3) (ae))) (Am rfl (iT (eM (i:=8) ek.nd rfl (Or.inl rfl)) (iT (eM (i:=5) ek.nd rfl (Or.inl rfl)) (rh)))) (ah (sv 9 ek.nd (aH jG (pv 8) (bW cx rfl T.iu PySem.boot_len (aa (pv 7) (ae))))) (aj (Mi (pf (rZ ak) hr (aa (pv 0) (aa (pv 2) (aa (pv 5) (aa (et aZ (pv 4) (pv 8)) (aa (et aZ (pv 7) (pv 9)) (ae))))))) (Mg (pv 7) (pv 9) set_list))))) (aj (aq (pf (og ak) hr (aa (pv 0) (aa (pv 2) (aa (pv 7) (ae))))))))),aE rfl rfl rfl rfl (aK (fun h1=>ax rfl rfl rfl rfl (gk rfl (o1) (o2) (fun D1 yo=>?k1))) (fun h1=>cP rfl rfl ?p3 (fun a3 H3 n3 s3 x3=>bP rfl rfl ((s3).seq (o1)) ?f1)))⟩
 case p3=>have:=df h1;omega
 case k1 =>
  have e4:=dt h1;refine mf l.length (by unfold sizeLine;omega) yo (fun i v Hx=>∃p u1 u2,v=.ref p∧l[i]?=some u1∧r[i]?=some u2∧eR C Hx p (BF.gu (BF.ta (BF.fm k) (u1:Nat)) (BF.ta (BF.fm k) (u2:Nat)))) (fun i v Hx Hy XQ ⟨p,u1,u2,e,g,g2,x⟩=>⟨p,u1,u2,e,g,g2,x.same XQ⟩) (fun i v Hx acc pH hD ⟨p,u1,u2,e,g,g2,x⟩=>⟨p,u1,u2,e,g,g2,C4 hD x⟩) ?_ ?_
  ·intro i Hi Kx hi si hK;have xa:l[i]?=some (l[i]'hi):=bI hi;have xb:r[i]?=some (r[i]'Kk):=bI Kk;refine⟨⟨_,_,_,_,si.seq o1,si.seq o2,by rw[aT,xa];rfl,by rw[aT,xb];rfl⟩,?_⟩;rintro v H2 ⟨T,v1,v2,rfl,hT,rfl,ha,hb⟩;have ex:=ha _ (si.seq o1);have ey:=hb _ (si.seq o2);rw[aT,xa] at ex;rw[aT,xb] at ey;have ba:=hx _ (fT hi);have bb:=hy _ (fT (show i<r.length by omega));generalize l[i]'hi=c at *;generalize r[i]'Kk=c2 at *;obtain rfl:V.int (c:Int)=v1:=bM ex;obtain rfl:V.int (c2:Int)=v2:=bM ey;refine⟨_,_,rfl,j5.of aL,rfl,_,_,rfl,_,_,rfl,rfl,⟨rfl,aW rfl rfl rfl (e7 rfl ?p1 (fun a2 H2 s2 x2=>?e1))⟩⟩
   case p1=>exact⟨iw hk ba,iw hk bb⟩
   case e1=>exact hK _ _ ((ai hT).trans s2) ⟨a2,c,c2,rfl,xa,xb,x2⟩
  ·intro H2 acc mX ha hlen hv;have sj:UR K C H2 D1 ((l.zip r).map fun (p:Nat×Nat)=>BF.gu (BF.ta (BF.fm k) p.1) (BF.ta (BF.fm k) p.2)):=by
    exact MY ha (by rw[aF,DU];omega) fun i v e=>by
     obtain⟨p,u1,u2,e1,e2,e3,x⟩:=hv i v e;exact⟨p,_,e1,by rw[aT,J7 (z:=(u1,u2)) |>.mpr ⟨e2,e3⟩];rfl,x⟩
   refine⟨⟨_,_,mX.seq o1,mX.seq o2,.inl (by simp)⟩,?_⟩;have hz:∀p∈l.zip r,p.1<2*(BF.fm k).sign∧p.2<2*(BF.fm k).sign:=fun p hp=>⟨hx _ (tY hp).1,hy _ (tY hp).2⟩;refine gk rfl (sj) ?p2 ⟨mX,?r1⟩
   case p2=>exact⟨hk,hm,fun u hu=>by
    obtain⟨p,Gp,rfl⟩:=jy.mp hu;exact xg (iw hk (hz p Gp).1) (iw hk (hz p Gp).2),by rw[aF,DU];omega⟩
   case r1 =>
    refine bD q ?_;unfold BF.Fm;rw[ao e4,ju];congr 2;refine xH fun p Gp=>?_;show (BF.gu _ _).kind=_;rw[BF.nS,BF.cY _ _ (hz p Gp).1,BF.cY _ _ (hz p Gp).2]
 case f1 =>
  have n8:=yp o;refine oe l.length (fun i σ H'=>(∃t5 t6 t8 t9,σ=[some (.int k),some (.int o),some (.int m),some (.ref a),some (.ref b),t5,t6,some (.ref a3),t8,t9])∧aI H H'∧H' a3=some (.lst (List.map (fun (c:Nat)=>V.int c) (BF.f6 (fun (s:Nat) (p:Nat×Nat)=>(BF.fm k).fma (BF.md m) p.1 p.2 s) (BF.fO o) ((l.zip r).take i))))) ?_ ?_ ?_
  ·refine⟨⟨_,_,_,_,rfl⟩,s3,b4 x3 ?_⟩;rw[DO,BF.Fh,List.map_replicate];rfl
  ·rintro i σ H' hi ⟨⟨t5,t6,t8,t9,rfl⟩,sm,zE⟩;have xa:l[i]?=some (l[i]'hi):=bI hi;have xb:r[i]?=some (r[i]'Kk):=bI Kk;refine⟨⟨_,_,sm.seq o1,by rw[aT,xa];rfl⟩,?_⟩;rintro v0 H2 ⟨T,v,rfl,hT,rfl,Qs⟩;have ex:=Qs _ (sm.seq o1);rw[aT,xa] at ex;have ba:=hx _ (fT hi);have bb:=hy _ (fT (show i<r.length by omega));generalize l[i]'hi=c at *;generalize r[i]'Kk=c2 at *;obtain rfl:V.int (c:Int)=v:=bM ex;have hLn:(BF.f6 (fun (s:Nat) (p:Nat×Nat)=>(BF.fm k).fma (BF.md m) p.1 p.2 s) (BF.fO o) ((l.zip r).take i)).length=BF.fO o:=BF.iW _ _ _;have hL:0<(BF.f6 (fun (s:Nat) (p:Nat×Nat)=>(BF.fm k).fma (BF.md m) p.1 p.2 s) (BF.fO o) ((l.zip r).take i)).length:=by omega
   obtain⟨vv,hv,sn⟩:=C5 (fun (s:Nat) (p:Nat×Nat)=>(BF.fm k).fma (BF.md m) p.1 p.2 s) (n:=BF.fO o) Kk (J7 (z:=(c,c2)) |>.mpr ⟨xa,xb⟩);have bv:vv<2*(BF.fm k).sign:=xj (fun s x=>BF.eA (BF.dm k) (BF.fM _ (BF.dm k) _ _ _)) (BF.dm k) _ (uq hv);refine⟨_,_,rfl,j5.of aL,rfl,_,_,rfl,_,_,rfl,rfl,br rfl rfl rfl (.inl (bU.of (((ai hT) _ _ (zE))))) (bJ rfl rfl ?c1 (ax rfl rfl rfl rfl (bT rfl rfl rfl (((ai hT)).seq ((sm).seq (o2))) (US xb) (aR rfl rfl (iq rfl rfl (bU.of (((ai hT) _ _ (zE)))) (JL hL hv) (j0 rfl ?p4 (aR rfl rfl (iq rfl rfl (((ai hT) _ _ (zE))) (C0 hL) ?e2))))))))⟩
   case c1=>show (0:Int)<((_:Nat):Int);rw[aF];omega
   case p4=>exact⟨hm,iw hk ba,iw hk bb,iw hk bv⟩
   case e2=>exact⟨⟨_,_,_,_,rfl⟩,fun b u e=>by rw[b7 (dc e n3)];exact ai hT _ _ (sm _ _ e),by rw[sn,List.map_set];exact aL⟩
  ·rintro σ H' ⟨⟨t5,t6,t8,t9,rfl⟩,sm,zE⟩;refine⟨⟨_,sm.seq o1,by simp⟩,?_⟩;refine aW rfl rfl rfl (gk rfl (bU.of (zE)) ?p5 ⟨sm,?r2⟩)
   case p5 =>
    refine⟨hm,hk,xj (fun s x=>BF.eA (BF.dm k) (BF.fM _ (BF.dm k) _ _ _)) (BF.dm k),?_⟩;rw[BF.iW];exact C6 o
   case r2 =>
    refine bD q ?_;have hz:(l.zip r).length=l.length:=by rw[DU];omega
    unfold BF.Fm BF.px;rw[ag (df h1),BF.iW,←hz,tR]
end
set_option smartUnfolding false
theorem UT {n:Nat} (h:n≤2000):Sm 8000 ((10:Int)^n):=by
 unfold Sm;have e:((10:Int)^n).natAbs=10^n:=by rw[J1];rfl
 rw[e];have a:(10:Nat)^n≤10^2000:=fA Ke h;have b:(10:Nat)^2000≤16^1900*16^100:=by rw[←eD];exact Nat.pow_le_pow_left Ke 2000
 have c:(16:Nat)^1900*16^100=2^8000:=by rw[←eD,show (16:Nat)=2^4 from rfl,←DQ]
 have d:(10:Nat)^2000<16^1900*16^100:=by
  rw[←eD];exact Nat.pow_lt_pow_left Ke Ke
 omega
theorem UU {z:Int} (h:Sm 9000 z):Sm 60000 (2*z+1):=by
 have a:Sm 9064 (2*z):=Sm.mul (a:=64) (show Sm 64 2 by unfold Sm;decide) h |>.mono Ke;exact(Sm.add a (show Sm 9064 1 from b6 Ke Ke)).mono Ke
theorem RP {Q:L2.VK} {H:Hp} {a b:V} (q:Q b H) (e:a=b):Q a H:=by rw[e];exact q
def MZ:Option Int→V
 | some z=>.int z
 | none=>.fV
section
variable {P:Program} {w:World} {K:aP} {mg:Str→Option Value} {base:Heap} {C C2 C3:Addr}
def yr (K:aP) (C:Addr):Sp:=fun vs H Q _=>∃e,vs=[.int e]∧(0≤e∧e≤1500)∧Q (.int (10^e.toNat)) H
theorem jr:aD ["exponent","power","turn"] ["exponent"] (ay (top 135)):=bz
theorem qM (ak:Ev K mg C C2 C3):cw P w K mg base "power_of_ten" ["exponent"] 1 (yr K C):=by
 have T:=ak.T;refine bc (ak.df 87) jr tZ (ua fun f bw A outer s H Q E hr e h=>?_);obtain⟨hp,q⟩:=h;refine⟨_,ah (sv 1 jr.nd (al)) (ah (nM PassesOwn.never rfl (uE rfl T.wN (aa (pv 0) (ae))) (eM (i:=2) jr.nd rfl (Or.inl rfl)) (aj (sv 1 jr.nd (aH cK (al) (pv 1))))) (aj (aq (pv 1)))),cP rfl rfl ?c1 ⟨?c2,?f1⟩⟩
 case c1=>omega
 case c2=>omega
 case f1 =>
  refine oe e.toNat (fun i σ H'=>(∃t,σ=[some (.int e),some (.int (10^i)),t])∧H'=H) ⟨⟨_,rfl⟩,rfl⟩ ?_ ?_
  ·rintro i σ H' hi ⟨⟨t,rfl⟩,rfl⟩;refine⟨hi,?_⟩;rintro x H2 ⟨rfl,rfl⟩;refine eK rfl rfl rfl ?c3 ?e1
   case c3=>exact⟨b6 Ke Ke,(UT Kk).mono Ke⟩
   case e1=>exact⟨⟨_,by rw[gz,iL];rfl⟩,rfl⟩
  ·rintro σ H' ⟨⟨t,rfl⟩,rfl⟩;refine⟨bB _,?_⟩;refine bg rfl ⟨aI.refl _,?r1⟩
   case r1=>exact q
def L5 (K:aP) (C:Addr):Sp:=fun vs H Q _=>∃z mid d,vs=[.int z,.int mid,.int d]∧(Sm 9000 z∧Sm 9000 mid∧Sm 9000 d)∧Q (.int (BF.xY z mid d)) H
theorem C7:aD ["below","middle","d","gap"] ["below","middle","d"] (ay (top 128)):=bz
theorem OV (ak:Ev K mg C C2 C3):cw P w K mg base "nearer" ["below","middle","d"] 1 (L5 K C):=by
 have T:=ak.T;refine bc (ak.df 80) C7 lY (lZ fun f bw A outer s H Q E hr z mid d h=>?_);obtain⟨⟨h1s,h2s,h3s⟩,q⟩:=h;refine⟨_,ah (sv 3 C7.nd (aH dn (aH cK (al) (pv 1)) (aH cK (aH bX (aH cK (al) (pv 0)) (al)) (pv 2)))) (ah (aS (b8 bp (pv 3) (al)) (aj (aq (aH bX (pv 0) (aH jG (pv 0) (al))))) (aB)) (aj (aq (cZ (b9 (b8 jx (pv 3) (al)) (pv 0) (aH bX (pv 0) (al))))))),eK rfl rfl rfl ?c1 (eK rfl rfl rfl ?c2 (ck rfl rfl rfl (bJ rfl rfl ?c3 (bG rfl rfl (aE rfl rfl rfl rfl (aK (fun h1=>aR rfl rfl (bJ rfl rfl (show (0:Int)<2 by decide) (bG rfl rfl ⟨aI.refl _,?r1⟩))) (fun h1=>⟨.int (if 2*mid-(2*z+1)*d<0 then z else z+1),aE rfl rfl rfl rfl (aK (fun h2=>bg rfl ?d1) (fun h2=>bP rfl rfl rfl ?d2)),⟨aI.refl _,?r2⟩⟩)))))))⟩
 case c1=>exact⟨b6 Ke Ke,h2s.mono Ke⟩
 case c2=>exact⟨b6 Ke Ke,h1s.mono Ke⟩
 case c3=>exact⟨UU h1s,h3s.mono Ke⟩
 case r1=>exact bD q (by unfold BF.xY;rw[ao (dt h1)])
 case d1=>exact⟨by rw[ao (dt h2)],rfl⟩
 case d2=>exact⟨by rw[ag (df h2)],rfl⟩
 case r2=>exact bD q (by unfold BF.xY;rw[ag (df h1)])
def vx (K:aP) (C:Addr):Sp:=fun vs H Q _=>∃lo mid hi d ev,vs=[.int lo,.int mid,.int hi,.int d,.bl ev]∧(0<d∧0≤mid∧Sm 8000 d∧Sm 8000 mid)∧Q (MZ (BF.between lo mid hi d ev)) H
theorem gD:aD ["low","middle","high","d","even","below","above","below_fits","above_fits"] ["low","middle","high","d","even"] (ay (top 127)):=bz
theorem oh (ak:Ev K mg C C2 C3):cw P w K mg base "digits_between" ["low","middle","high","d","even"] 2 (vx K C):=by
 have T:=ak.T;refine bc (ak.df 79) gD B5 (B6 fun f bw A outer s H Q E hr lo mid hi d ev h=>?_);obtain⟨⟨d0,m0,sd,sm⟩,q⟩:=h;refine⟨_,ah (sv 5 gD.nd (aH ir (pv 1) (pv 3))) (ah (sv 6 gD.nd (aH bX (pv 5) (al))) (ah (sv 7 gD.nd (cZ (AV (iB eY (aH cK (pv 5) (pv 3)) (pv 0)) (jj (cZ (lP (pv 4) (jj (iB bp (aH cK (pv 5) (pv 3)) (pv 0))))))))) (ah (sv 8 gD.nd (cZ (AV (iB jx (aH cK (pv 6) (pv 3)) (pv 2)) (jj (cZ (lP (pv 4) (jj (iB bp (aH cK (pv 6) (pv 3)) (pv 2))))))))) (ah (aS (cy (PW.pt (kf (aQ (pv 7)) (ke (aQ (pv 8)))))) (aj (aq (pf (OV ak) hr (aa (pv 5) (aa (pv 1) (aa (pv 3) (ae))))))) (aB)) (ah (aS (aQ (pv 7)) (aj (aq (pv 5))) (aB)) (aj (aq (cZ (b9 (aQ (pv 8)) (pv 6) (Mf)))))))))),aR rfl rfl (bJ rfl rfl ?c1 (bP rfl rfl rfl ⟨.bl (decide (lo<mid/d*d)||(ev&&decide (mid/d*d=lo))),aR rfl rfl (bJ rfl rfl ?c2 (aE rfl rfl rfl rfl (aK (fun h2=>?d4) (fun h2=>⟨.bl (ev&&decide (mid/d*d=lo)),aR rfl rfl (aK (fun h1=>aR rfl rfl (bJ rfl rfl ?c3 (bP rfl rfl rfl ?d1))) (fun h1=>?d2)),?d3⟩)))),⟨.bl (decide ((mid/d+1)*d<hi)||(ev&&decide ((mid/d+1)*d=hi))),aR rfl rfl (bJ rfl rfl ?c4 (aE rfl rfl rfl rfl (aK (fun h4=>?d8) (fun h4=>⟨.bl (ev&&decide ((mid/d+1)*d=hi)),aR rfl rfl (aK (fun h3=>aR rfl rfl (bJ rfl rfl ?c5 (bP rfl rfl rfl ?d5))) (fun h3=>?d6)),?d7⟩)))),⟨((decide (lo<mid/d*d)||(ev&&decide (mid/d*d=lo)))&&(decide ((mid/d+1)*d<hi)||(ev&&decide ((mid/d+1)*d=hi)))),aR rfl rfl (aK (fun h6=>aR rfl rfl ?d9) (fun h6=>?I0)),aK (fun h5=>aW rfl rfl rfl (e7 rfl ?p1 ⟨aI.refl _,?r1⟩)) (fun h5=>aR rfl rfl (aK (fun h7=>bg rfl ⟨aI.refl _,?r2⟩) (fun h7=>⟨(if (decide ((mid/d+1)*d<hi)||(ev&&decide ((mid/d+1)*d=hi)))=true then V.int (mid/d+1) else V.fV),aR rfl rfl (aK (fun h8=>bg rfl ?RG) (fun h8=>?XM)),⟨aI.refl _,?r3⟩⟩)))⟩⟩⟩))⟩
 all_goals have q0:0≤mid/d:=f9 m0 (bo d0)
 all_goals have q1:mid/d≤mid:=mj d m0
 all_goals have sq:Sm 8000 (mid/d):=sm.le Kk
 all_goals have sq1:Sm 9000 (mid/d+1):=(Sm.add sq (show Sm 8000 1 from b6 Ke Ke)).mono Ke
 case c1=>exact⟨d0,sd.mono Ke⟩
 case c2=>exact⟨sq.mono Ke,sd.mono Ke⟩
 case c3=>exact⟨sq.mono Ke,sd.mono Ke⟩
 case c4=>exact⟨sq1.mono Ke,sd.mono Ke⟩
 case c5=>exact⟨sq1.mono Ke,sd.mono Ke⟩
 case d4=>exact⟨by rw[h2];rfl,rfl⟩
 case d1=>exact⟨by rw[h1];rfl,rfl⟩
 case d2=>exact⟨by rw[aV _ |>.mp h1];rfl,rfl⟩
 case d3=>exact⟨by rw[aV _ |>.mp h2];rfl,rfl⟩
 case d8=>exact⟨by rw[h4];rfl,rfl⟩
 case d5=>exact⟨by rw[h3];rfl,rfl⟩
 case d6=>exact⟨by rw[aV _ |>.mp h3];rfl,rfl⟩
 case d7=>exact⟨by rw[aV _ |>.mp h4];rfl,rfl⟩
 case d9=>exact⟨by rw[h6];rfl,rfl⟩
 case I0=>exact⟨by rw[aV _ |>.mp h6];rfl,rfl⟩
 case p1=>exact⟨sq.mono Ke,sm.mono Ke,sd.mono Ke⟩
 case r1=>exact RP q (by unfold BF.between;rw[ao h5];rfl)
 case r2=>exact RP q (by unfold BF.between;rw[ag h5,ao h7];rfl)
 case RG=>exact⟨by rw[ao h8],rfl⟩
 case XM=>exact⟨by rw[ag h8],rfl⟩
 case r3 =>
  refine RP q ?_;unfold BF.between;rw[ag h5,ag h7];split<;>rfl
end
set_option smartUnfolding true
abbrev ed (b:Lw.Bytes):List V:=List.map (fun (c:UInt8)=>V.int (c.toNat:Nat)) b
theorem OW {b:Lw.Bytes} {i:Nat} {c:UInt8} (h:b[i]?=some c):Lw.numberOf (b.take (i+1))=10*Lw.numberOf (b.take i)+(c.toNat-48):=by
 unfold Lw.numberOf;rw[sV,h,xS,xF];rfl
theorem M0:∀(b:Lw.Bytes) (n:Nat),b.foldl (fun (n:Nat) (c:UInt8)=>10*n+(c.toNat-48)) n<(n+1)*256^b.length
 | [],n=>by simp
 | c::r,n=>by
  have ih:=M0 r (10*n+(c.toNat-48));have hc:c.toNat<256:=c.toNat_lt;have:10*n+(c.toNat-48)+1≤(n+1)*256:=by omega
  have k:=vZ (256^r.length) this;rw[wk,←Nat.pow_succ'] at k;exact cg ih k
theorem xm {b:Lw.Bytes} (h:b.length≤120):Sm 1000 (Lw.numberOf b:Nat):=by
 have a:=M0 b 0;have c:(256:Nat)^b.length≤256^120:=fA Ke h;have d:(256:Nat)^120=2^960:=by rw[show (256:Nat)=2^8 from rfl,←DQ]
 have e:(2:Nat)^960≤2^1000:=fA Ke Ke;unfold Sm;rw[J4];unfold Lw.numberOf;omega
section
variable {P:Program} {w:World} {K:aP} {mg:Str→Option Value} {base:Heap} {C C2 C3:Addr}
def vy (K:aP) (C:Addr):Sp:=fun vs H Q _=>∃a b,vs=[.ref a]∧(bU K H a (ed b))∧((∀c∈b,48≤c.toNat)∧b.length≤120)∧Q (.int (Lw.numberOf b:Nat)) H
theorem iI:aD ["digits","n","digit"] ["digits"] (ay (top 134)):=bz
theorem oj (ak:Ev K mg C C2 C3):cw P w K mg base "counted_digits" ["digits"] 1 (vy K C):=by
 have T:=ak.T;refine bc (ak.df 86) iI lu (lx fun f bw A outer s H Q E hr a b h=>?_);obtain⟨o1,⟨hb,hl⟩,q⟩:=h;refine⟨_,ah (sv 1 iI.nd (al)) (ah (nM PassesOwn.never rfl (oQ (pv 0)) (eM (i:=2) iI.nd rfl (Or.inl rfl)) (aj (sv 1 iI.nd (aH dn (aH bX (aH cK (al) (pv 1)) (pv 2)) (aG T.zh rfl))))) (aj (aq (pv 1)))),cP rfl rfl ⟨_,(o1)⟩ ?f1⟩
 case f1 =>
  refine oe b.length (fun i σ H'=>(∃t,σ=[some (.ref a),some (.int (Lw.numberOf (b.take i):Nat)),t])∧H'=H) ⟨⟨_,rfl⟩,rfl⟩ ?_ ?_
  ·rintro i σ H' hi ⟨⟨t,rfl⟩,rfl⟩;have xa:b[i]?=some (b[i]'hi):=bI hi;refine⟨⟨_,_,o1,by rw[aT,xa];rfl⟩,?_⟩;rintro v H2 ⟨rfl,hv⟩;have ex:=hv _ o1;rw[aT,xa] at ex;have hc:=hb _ (fT hi);generalize b[i]'hi=c at *;obtain rfl:V.int ((c.toNat:Nat):Int)=v:=bM ex;refine eK rfl rfl rfl ?c1 (bP rfl rfl rfl (bG rfl rfl ?e1))
   case c1=>exact⟨b6 Ke Ke,(xm (by rw[fN];omega)).mono Ke⟩
   case e1 =>
    have e:((Lw.numberOf (b.take (i+1)):Nat):Int)=10*(Lw.numberOf (b.take i):Nat)+(c.toNat:Nat)-48:=by rw[OW xa];omega
    exact⟨⟨_,by rw[e];rfl⟩,rfl⟩
  ·rintro σ H' ⟨⟨t,rfl⟩,rfl⟩;refine⟨⟨_,o1,by simp⟩,?_⟩;refine bg rfl ⟨aI.refl _,?r1⟩
   case r1=>exact bD q (by rw[tR])
end
set_option smartUnfolding false
theorem RQ {b:Lw.Bytes} {e:Nat} (h:decide ((e:Int)<((ed b).length:Int))=true):lD (ed b) (e:Int)=some (.int ((b.getD e 0).toNat:Nat)):=by
 have h':=eV h;rw[aF] at h';have hi:e<b.length:=by omega
 unfold lD xO;rw[aF,ao Kk,ao Kk,yH,aN,aT,bI hi];simp[List.getD,bI hi]
theorem RS {b:Lw.Bytes} {e:Nat} (h:decide ((e:Int)<((ed b).length:Int))=true):e<b.length:=by
 have h':=eV h;rw[aF] at h';omega
def lA (b:Lw.Bytes) (e:Nat):Nat:=e+((b.drop e).takeWhile Lw.isDigit).length
theorem RT {b:Lw.Bytes} {e:Nat} (h:e<b.length) (d:Lw.isDigit (b.getD e 0)=true):lA b (e+1)=lA b e:=by
 unfold lA;have g:b.getD e 0=b[e]:=by simp[List.getD,bI h]
 rw[IV h,sR,←g,d,ao rfl,cN];omega
theorem L6 {b:Lw.Bytes} {e:Nat} (h:¬(e<b.length∧Lw.isDigit (b.getD e 0)=true)):lA b e=e:=by
 unfold lA;by_cases c:e<b.length
 ·have g:b.getD e 0=b[e]:=by simp[List.getD,bI c]
  rw[IV c,sR,←g,ag fun z=>h ⟨c,z⟩];rfl
 ·rw[xJ Kk];rfl
section
variable {P:Program} {w:World} {K:aP} {mg:Str→Option Value} {base:Heap} {C C2 C3:Addr}
def xn (K:aP) (C:Addr):Sp:=fun vs H Q _=>∃a b s,vs=[.ref a,.int s]∧(bU K H a (ed b))∧(0≤s)∧Q (.int (lA b s.toNat:Nat)) H
theorem kE:aD ["text","start","end"] ["text","start"] (ay (top 133)):=bz
theorem kY (ak:Ev K mg C C2 C3):cw P w K mg base "end_of_digits" ["text","start"] 1 (xn K C):=by
 have T:=ak.T;refine bc (ak.df 85) kE lY (lZ fun f bw A outer s H Q E hr a b s h=>?_);obtain⟨o1,hp,q⟩:=h;obtain⟨S,rfl⟩:=aA hp;refine⟨_,ah (sv 2 kE.nd (pv 1)) (ah (jQ PassesOwn.never (cy (PW.pt (kf (b8 jx (pv 2) (bW cx rfl T.iu PySem.boot_len (aa (pv 0) (ae)))) (ke (Nm A0 A0 (aG T.zh rfl) (et aZ (pv 0) (pv 2)) (aG T.Jh rfl)))))) (aj (sv 2 kE.nd (aH bX (pv 2) (al))))) (aj (aq (pv 2)))),bg rfl ?w1⟩
 case w1 =>
  refine gW (fun (e:Nat) σ H'=>σ=[some (.ref a),some (.int S),some (.int e)]∧H'=H∧lA b e=lA b S) (fun e=>b.length-e) S ⟨rfl,rfl,rfl⟩ ?_;rintro e σ H' ⟨rfl,rfl,he⟩;refine⟨(decide (e<b.length)&&Lw.isDigit (b.getD e 0)),br rfl rfl rfl (.inl (o1)) (ck rfl rfl rfl (aK (fun h2=>aR rfl rfl (iq rfl rfl (o1) (RQ h2) (ck rfl rfl rfl (aK (fun h3=>ck rfl rfl rfl ?d1) (fun h3=>bg rfl ?d2))))) (fun h2=>?d3))),aK (fun h1=>bP rfl rfl rfl ?e1) (fun h1=>bg rfl ⟨aI.refl _,?r1⟩)⟩
  case d1 =>
   have e2:=RS h2;exact⟨by rw[dv e2,eX];unfold Lw.isDigit;rw[dv (show 48≤(b.getD e 0).toNat by have:=dt h3;omega),eX];exact tP.mpr Kk,rfl⟩
  case d2 =>
   have e2:=RS h2;exact⟨by rw[dv e2,eX];unfold Lw.isDigit;rw[bS (show ¬48≤(b.getD e 0).toNat by have:=df h3;omega),ic],rfl⟩
  case d3 =>
   have e2:¬e<b.length:=fun z=>df h2 (by rw[aF];omega);exact⟨by rw[bS e2,ic],rfl⟩
  case e1 =>
   have hh:=jw.mp h1;have e2:=dt hh.1;exact⟨e+1,⟨rfl,rfl,(RT e2 hh.2).trans he⟩,Kk⟩
  case r1 =>
   have hh:¬(e<b.length∧Lw.isDigit (b.getD e 0)=true):=fun ⟨x,y⟩=>h1 (jw.mpr ⟨dv x,y⟩);exact bD q (by rw[aN,←he,L6 hh])
def JM (K:aP) (C:Addr):Sp:=fun vs H Q _=>∃x,vs=[.str x]∧(x.cps.size≤1000)∧∀a H',aI H H'→H' a=some (.lst (x.cps.toList.map fun (c:Nat)=>V.int c))→Q (.ref a) H'
theorem sr:aD ["text","letter"] ["text"] (ay (top 123)):=bz
theorem jO (ak:Ev K mg C C2 C3):cw P w K mg base "spelled" ["text"] 1 (JM K C):=by
 have T:=ak.T;refine cQ (ak.df 75) sr tZ (ua fun f bw A outer s H Q E hr x h=>?_);obtain⟨hp,q⟩:=h;refine⟨_,aj (aq (uP rfl sr.nd (Th (pv 0)) (own:=[("letter",1)]) (jl rfl) (fun _ _ _ _ _=>eM (i:=1) sr.nd rfl (Or.inl rfl)) (fun _ _ _ _ _=>kh) (fun _ _ _ _ _=>bW Nn rfl T.Xy boot_ord (aa (pv 1) (ae))))),aR rfl rfl (fun D1 yo=>?k1)⟩
 case k1 =>
  refine mf x.cps.size (by unfold sizeLine;omega) yo (fun i v _=>∃c:Nat,x.cps[i]?=some c∧v=.int (c:Nat)) (fun _ _ _ _ _ e=>e) (fun _ _ _ _ _ _ e=>e) ?_ ?_
  ·intro i H' Kx hi si hK;refine⟨hi,?_⟩;rintro x1 H2 ⟨rfl,c,hc,rfl⟩;refine⟨rfl,cP rfl rfl ?c1 ?e1⟩
   case c1=>rfl
   case e1=>exact hK _ _ (aI.refl _) ⟨c,hc,rfl⟩
  ·intro H2 acc mX ha hl hv;have e:acc=x.cps.toList.map fun (c:Nat)=>V.int c:=by
    refine j8 fun i=>?_;by_cases c:i<acc.length
    ·obtain⟨d,e1,e2⟩:=hv i _ (bI c);rw[bI c,e2,aT,Array.getElem?_toList,e1];rfl
    ·rw[eP Kk,eP (by simp;omega)]
   subst e;have sj:=ha;refine⟨bB _,?_⟩;refine q _ _ (mX) (b4 (sj) ?r1)
   case r1=>rfl
end
set_option smartUnfolding true
theorem C8:∀d:Nat,d<10→(Nat.digitChar d).toNat=48+d:=by decide
theorem xo:∀(f n:Nat) (ds:List Char),(Nat.toDigitsCore 10 f n ds).map Char.toNat=(Lw.digitsOn f n).map (fun (c:UInt8)=>c.toNat)++ds.map Char.toNat
 | 0,n,ds=>by simp[Nat.toDigitsCore,Lw.digitsOn]
 | f+1,n,ds=>by
  unfold Nat.toDigitsCore Lw.digitsOn;have hd:=C8 (n%10) (fK _ Ke);by_cases c:n<10
  ·have e:n/10=0:=by omega
   have e2:n%10=n:=by omega
   rw[ao c,ao e,e2];rw[e2] at hd;have b:(UInt8.ofNat (48+n)).toNat=48+n:=by rw[DP];omega
   simp[hd,b];omega
  ·have e:¬n/10=0:=by omega
   have b:(UInt8.ofNat (48+n%10)).toNat=48+n%10:=by rw[DP];omega
   rw[ag c,ag e,xo f (n/10)];simp[hd,b];omega
theorem FF (n:Nat):(Nat.repr n).toList.map Char.toNat=(Lw.decimal n).map (fun (c:UInt8)=>c.toNat):=by
 unfold Nat.repr Nat.toDigits Lw.decimal;rw[String.toList_ofList,xo];simp
def om (e:Int):Lw.Bytes:=(if e<0 then [45] else [])++Lw.decimal e.natAbs
theorem mn (i:Int):(toString i).toList.map Char.toNat=(om i).map (fun (c:UInt8)=>c.toNat):=by
 cases i with
 | ofNat m =>
  show (Nat.repr m).toList.map Char.toNat=_;rw[FF];unfold om;rw[ag (show ¬Int.ofNat m<0 from Int.not_lt.mpr (fL m))];rfl
 | negSucc m =>
  show ("-"++Nat.repr (m+1)).toList.map Char.toNat=_;rw[String.toList_append,yI,FF];unfold om;rw[ao Kk];rfl
theorem k8 (x:String):(Str.ofString x).cps.toList=x.toList.map Char.toNat:=by
 rw[Str.ofString_eq_toList]
theorem RU (i j:Int):(Str.ofString (toString i)++Str.ofString "e"++Str.ofString (toString j)).cps.toList=(om i++((101:UInt8)::om j)).map (fun (c:UInt8)=>c.toNat):=by
 rw[Str.cps_append,Str.cps_append,Array.toList_append,Array.toList_append,k8,k8,k8,mn,mn,yI,fU,kI];rfl
theorem JN:∀(f g n:Nat),n<10^(f+1)→(Lw.digitsOn g n).length≤f+1
 | f,0,n,_=>by simp[Lw.digitsOn]
 | 0,g+1,n,h=>by
  unfold Lw.digitsOn;rw[ao (by simpa using h)];simp
 | f+1,g+1,n,h=>by
  unfold Lw.digitsOn;split
  ·simp
  ·have:=JN f g (n/10) (by rw[gZ] at h;omega);rw[cT];simp;omega
theorem xp {i:Int} (h:i.natAbs<10^21):(om i).length≤30:=by
 have:=JN 20 (i.natAbs+1) i.natAbs h;unfold om Lw.decimal;rw[cT];split<;>simp<;>omega
theorem JO (n:Nat):om (n:Int)=Lw.decimal n:=by
 unfold om;rw[ag Kk,J4];rfl
theorem str_len (i:Int):(Str.ofString (toString i)).length=(om i).length:=by
 have e:=a7 List.length (k8 (toString i));rw[mn,aF,yS] at e;exact e
theorem sx (a b:Str):(a++b).length=a.length+b.length:=by
 show (a++b).cps.size=_;rw[Str.cps_append,Array.size_append];rfl
theorem C9 {i:Int} (h:i.natAbs<10^21):i.natAbs.log2<1920:=by
 rcases Nat.eq_zero_or_pos i.natAbs with z | z
 ·rw[z];decide
 ·exact(Nat.log2_lt Kk).mpr (cg h (bZ (show 10^21≤2^100 by decide) (fA Ke Ke)))
section
variable {P:Program} {w:World} {K:aP} {mg:Str→Option Value} {base:Heap} {C C2 C3:Addr}
def vz (K:aP) (C:Addr):Sp:=fun vs H Q _=>∃d e,vs=[.int d,.int e]∧(0<d∧d<10^19∧-2000≤e∧e≤2000)∧∀a H',aI H H'→H' a=some (.lst (ed (Lw.decimal (Lw.stripped 20 d.toNat e).1++((101:UInt8)::om (Lw.stripped 20 d.toNat e).2))))→Q (.ref a) H'
theorem jP:aD ["digits","exponent"] ["digits","exponent"] (ay (top 129)):=bz
theorem xq (ak:Ev K mg C C2 C3):cw P w K mg base "spelled_digits" ["digits","exponent"] 2 (vz K C):=by
 have T:=ak.T;refine cQ (ak.df 81) jP lu (lx fun f bw A outer s H Q E hr d e h=>?_);obtain⟨hp,q⟩:=h;obtain⟨D,rfl⟩:=aA (bo hp.1);refine⟨_,ah (jQ PassesOwn.never (cy (b8 bp (aH jG (pv 0) (al)) (al))) (ah (sv 0 jP.nd (aH ir (pv 0) (al))) (aj (sv 1 jP.nd (aH bX (pv 1) (al)))))) (aj (aq (pf (jO ak) hr (aa (Uc (pv 0) nG (pv 1)) (ae))))),?w1⟩
 case w1 =>
  refine gW (fun (p:Nat×Int) σ H'=>σ=[some (.int (p.1:Nat)),some (.int p.2)]∧H'=H∧0<p.1∧p.1<10^19∧-2000≤p.2∧(p.2+p.1≤2000+D)∧∃f,p.1<10^f∧Lw.stripped f p.1 p.2=Lw.stripped 20 D e) (fun p=>p.1) (D,e) ?_ ?_
  ·exact⟨rfl,rfl,by have:=hp.1;omega,by have:=hp.2.1;omega,hp.2.2.1,by have:=hp.2.2.2;omega,20,by have:=hp.2.1;show D<10^20;omega,rfl⟩
  ·rintro⟨n,x⟩ σ H' ⟨rfl,rfl,n0,n1,x0,x1,f,hf,hs⟩;dsimp only at n0 n1 x0 x1 hf hs;have dD:=hp.2.1;refine⟨(decide (((n:Nat):Int)%10=0)),eK rfl rfl rfl (show (0:Int)<10 by decide) (ck rfl rfl rfl ?d1),aK (fun h1=>eK rfl rfl rfl (vc Ke Ke) (bP rfl rfl rfl ?e1)) (fun h1=>cP rfl rfl ?c1 ⟨?c2,?c3,cP rfl rfl ?c4 ⟨?c5,eH rfl ?p1 (fun a1 H1 s1 x1=>q _ _ (s1) (b4 (x1) ?r1))⟩⟩)⟩
   case d1=>exact⟨rfl,rfl⟩
   case e1 =>
    have z:=dt h1;obtain⟨f',g1,g2,g3⟩:=BF.strip_go (e:=x) n0 hf Kk;refine⟨(n/10,x+1),⟨?_,rfl,g2,by show n/10<_;omega,by show -2000≤x+1;omega,by show x+1+((n/10:Nat):Int)≤_;omega,f',g3,g1.symm.trans hs⟩,by show n/10<n;omega⟩;show _=[some (V.int ((n/10:Nat):Int)),some (V.int (x+1))];rw[J2];rfl
   all_goals have la:=xp (i:=(n:Int)) Kk
   all_goals have lb:=xp (i:=x) Kk
   all_goals have lc:=str_len (n:Int)
   all_goals have ld:=str_len x
   case c1=>exact C9 Kk
   case c2=>show (Str.ofString (toString ((n:Nat):Int))).length≤_;unfold sizeLine;omega
   case c3=>show (Str.ofString (toString ((n:Nat):Int))++Str.ofString "e").length≤_;rw[sx];unfold sizeLine;have:(Str.ofString "e").length=1:=(by decide +kernel);omega
   case c4=>exact C9 Kk
   case c5=>show (Str.ofString (toString ((n:Nat):Int))++Str.ofString "e"++Str.ofString (toString x)).length≤_;rw[sx,sx];unfold sizeLine;have:(Str.ofString "e").length=1:=(by decide +kernel);omega
   case p1=>show (Str.ofString (toString ((n:Nat):Int))++Str.ofString "e"++Str.ofString (toString x)).length≤1000;rw[sx,sx];have:(Str.ofString "e").length=1:=(by decide +kernel);omega
   case r1 =>
    have st:Lw.stripped 20 D e=(n,x):=by rw[←hs];exact BF.strip_stop n0 hf (fun z=>df h1 Kk)
    rw[aN,st];refine(a7 (List.map fun (c:Nat)=>V.int c) (RU (n:Int) x)).trans ?_;rw[ju,JO];rfl
end
set_option smartUnfolding false
def tM (k:Int) (x:Nat):Lw.Bytes:=match (BF.fm k).kind x with
 | .num _ q=>Lw.decimal (Lw.shortest (BF.fm k) ((BF.fm k).abs x) (Lw.size q)).1++((101:UInt8)::om (Lw.shortest (BF.fm k) ((BF.fm k).abs x) (Lw.size q)).2)
 | _=>[]
def mY (k:Int) (x:Nat):Lw.Bytes:=if BF.hJ (BF.fm k) x=true then Lw.INF else if BF.eC (BF.fm k) x=true then [48] else tM k x
theorem FG {k:Int} {X:Nat} (hx:VB k (X:Int)) (h:BF.cp (BF.fm k) X=true):(BF.fm k).text X=Lw.NAN:=by
 unfold Lw.Fmt.text;rcases BF.way (BF.fm k) (BF.dm k) (bY hx) with ⟨a,b⟩ | ⟨s,a,b⟩ | ⟨s,X',S,p,a,b,c,d⟩
 ·rw[b]
 ·rw[a] at h;cases h
 ·rw[a] at h;cases h
theorem FH {k:Int} {X:Nat} (hx:VB k (X:Int)) (h:BF.cp (BF.fm k) X=false):(BF.fm k).text X=(if BF.aU (BF.fm k)≤(X:Int) then [45] else [])++mY k X:=by
 unfold Lw.Fmt.text mY tM;rcases BF.way (BF.fm k) (BF.dm k) (bY hx) with ⟨a,b⟩ | ⟨s,a,b,c,d,e⟩ | ⟨s,X',S,p,a,b,c,d,e⟩
 ·rw[a] at h;cases h
 ·rw[d,b,ao rfl,←e];simp only[dH]
 ·rw[d,b,c,ag (show ¬(false=true) by decide),←e];simp only[dH];by_cases z:S=0
  ·have:BF.bK s ((S:Rat)*Lw.two p)=0:=by
    rw[z,show ((0:Int):Rat)=0 from rfl,bF];cases s<;>rfl
   rw[←e] at this;rw[ao this,ao z];split<;>rfl
  ·have:=dG (s:=s) (p:=p) z;rw[←e] at this;rw[ag this,ag z];rfl
section
variable {P:Program} {w:World} {K:aP} {mg:Str→Option Value} {base:Heap} {C C2 C3:Addr}
def G3 (K:aP) (C:Addr):Sp:=fun vs H Q _=>∃k x,vs=[.int k,.int x]∧(VB k x∧BF.cp (BF.fm k) x=false∧BF.hJ (BF.fm k) x=false∧BF.eC (BF.fm k) x=false)∧∀a H',aI H H'→H' a=some (.lst (ed (tM k x.toNat)))→Q (.ref a) H'
end
set_option smartUnfolding true
theorem Sm.ten {n:Nat} {z:Int} (h:Sm n z):Sm (n+4) (10*z):=by
 unfold Sm at *;rw[JZ,eD];show 10*_<_;omega
theorem Dc {k:Int} {X:Nat} (hx:VB k (X:Int)) (h1:BF.cp (BF.fm k) X=false) (h2:BF.hJ (BF.fm k) X=false) (h3:BF.eC (BF.fm k) X=false) :
  ∃Y:Nat,BF.Norm (BF.fm k) (BF.ta (BF.fm k) (X:Int)).size (BF.ta (BF.fm k) (X:Int)).power Y∧tM k X=Lw.decimal (Lw.shortest (BF.fm k) Y (((BF.ta (BF.fm k) (X:Int)).size:Rat)*Lw.two (BF.ta (BF.fm k) (X:Int)).power)).1++((101:UInt8)::om (Lw.shortest (BF.fm k) Y (((BF.ta (BF.fm k) (X:Int)).size:Rat)*Lw.two (BF.ta (BF.fm k) (X:Int)).power)).2):=by
 obtain⟨Y,s,q,kd,sz,ab,N⟩:=BF.Lf (bY hx) h1 h2 h3;refine⟨Y,N,?_⟩;unfold tM;rw[kd];show Lw.decimal (Lw.shortest (BF.fm k) ((BF.fm k).abs X) (Lw.size q)).1++((101:UInt8)::om (Lw.shortest (BF.fm k) ((BF.fm k).abs X) (Lw.size q)).2)=_;rw[sz,ab]
theorem OX {k:Int} {X:Nat} (hx:VB k (X:Int)) (h1:BF.cp (BF.fm k) X=false):(mY k X).length≤100:=by
 unfold mY;split
 ·decide
 ·next h2 =>
  split
  ·decide
  ·next h3 =>
   obtain⟨Y,N,e⟩:=Dc hx h1 (aV _ |>.mp h2) (aV _ |>.mp h3);have ⟨a,b,c⟩:=BF.Gy N;rw[e,cT,cN,←JO];have l1:=xp (i:=(((Lw.shortest (BF.fm k) Y (((BF.ta (BF.fm k) (X:Int)).size:Rat)*Lw.two (BF.ta (BF.fm k) (X:Int)).power)).1:Nat):Int)) Kk;have l2:=xp (i:=(Lw.shortest (BF.fm k) Y (((BF.ta (BF.fm k) (X:Int)).size:Rat)*Lw.two (BF.ta (BF.fm k) (X:Int)).power)).2) Kk;omega
theorem Dd {k:Int} {x:Int} (hx:VB k x):(mY k x.toNat).length≤100:=by
 obtain⟨X,rfl⟩:=aA hx.2.1;rw[aN];cases h:BF.cp (BF.fm k) X with
 | false=>exact OX hx h
 | true =>
  rcases BF.way (BF.fm k) (BF.dm k) (bY hx) with ⟨a,b⟩ | ⟨s,a,b⟩ | ⟨s,X',S,p,a,b,c,d⟩
  ·unfold mY tM;rw[b];split
   ·decide
   ·split
    ·decide
    ·exact iC _
  ·rw[a] at h;cases h
  ·rw[a] at h;cases h
theorem FI {k:Int} {x:Int} (hx:VB k x):((BF.fm k).text x.toNat).length≤101:=by
 obtain⟨X,rfl⟩:=aA hx.2.1;have sl:=Dd hx;rw[aN] at *;cases h:BF.cp (BF.fm k) X with
 | false =>
  rw[FH hx h,cT];split<;>simp<;>omega
 | true=>rw[FG hx h];decide
section
variable {P:Program} {w:World} {K:aP} {mg:Str→Option Value} {base:Heap} {C C2 C3:Addr}
theorem da:aD ["kind","a","u","middle","narrow","low","high","even","unit","d","exponent","digits"] ["kind","a"] (ay (top 126)):=bz
theorem JP (ak:Ev K mg C C2 C3):cw P w K mg base "shortest" ["kind","a"] 6 (G3 K C):=by
 have T:=ak.T;refine cQ (ak.df 78) da lu (lx fun f bw A outer s H Q E hr k x h=>?_);obtain⟨⟨hx,h0,hi,hz⟩,q⟩:=h;obtain⟨X,rfl⟩:=aA hx.2.1;obtain⟨Y,N,eB⟩:=Dc hx h0 hi hz;have hu:=cM hx;have sm:=BF.gM k;have ⟨t1,t2,b1,b2,q0⟩:=BF.tD N;have S0:=N.s0;have sS:Sm 53 (BF.ta (BF.fm k) (X:Int)).size:=hu.2.1;have Z5:=hu.2.2.1;have hp2:=hu.2.2.2;have sM:Sm 60 (4*(BF.ta (BF.fm k) (X:Int)).size):=(Sm.mul (show Sm 3 4 by unfold Sm;decide) sS).mono Ke;have sL:Sm 62 (4*(BF.ta (BF.fm k) (X:Int)).size-(if ((BF.ta (BF.fm k) (X:Int)).size=2^(BF.fm k).m∧BF.az (BF.fm k)<(BF.ta (BF.fm k) (X:Int)).power) then 1 else 2)):=by
  unfold Sm at *;split<;>omega
 have sH:Sm 62 (4*(BF.ta (BF.fm k) (X:Int)).size+2):=by
  unfold Sm at *;omega
 have sU:Sm 2048 (1*2^(if (0:Int)>(BF.ta (BF.fm k) (X:Int)).power-2 then 0 else (BF.ta (BF.fm k) (X:Int)).power-2).toNat):=(Sm.shl (a:=1) (show Sm 1 1 by unfold Sm;decide)).mono (by split<;>omega);have sD:Sm 1100 (1*2^(if (0:Int)>2-(BF.ta (BF.fm k) (X:Int)).power then 0 else 2-(BF.ta (BF.fm k) (X:Int)).power).toNat):=(Sm.shl (a:=1) (show Sm 1 1 by unfold Sm;decide)).mono (by split<;>omega);refine⟨_,ah (sv 2 da.nd (pf (bA ak) hr (aa (pv 0) (aa (pv 1) (ae))))) (ah (sv 3 da.nd (aH cK (al) (a8 T.ex .size (pv 2)))) (ah (sv 4 da.nd (cZ (lP (iB bp (a8 T.ex .size (pv 2)) (aH dU (al) (ib T.e9 rfl (pv 0)))) (jj (iB eY (a8 T.ex .power (pv 2)) (pf (ku ak) hr (aa (pv 0) (ae)))))))) (ah (sv 5 da.nd (aH dn (pv 3) (cZ (b9 (aQ (pv 4)) (al) (al))))) (ah (sv 6 da.nd (aH bX (pv 3) (al))) (ah (sv 7 da.nd (iB bp (aH jG (a8 T.ex .size (pv 2)) (al)) (al))) (ah (sv 8 da.nd (aH dU (al) (bW (pT rfl) rfl T.GH boot_max (aa (aH dn (a8 T.ex .power (pv 2)) (al)) (aa (al) (ae)))))) (ah (sv 9 da.nd (aH dU (al) (bW (pT rfl) rfl T.GH boot_max (aa (aH dn (al) (a8 T.ex .power (pv 2))) (aa (al) (ae)))))) (ah (sv 10 da.nd (al)) (ah (jQ PassesOwn.never (cy (b8 mx (aH cK (pv 3) (pv 8)) (aH cK (al) (pv 9)))) (ah (sv 9 da.nd (aH cK (al) (pv 9))) (aj (sv 10 da.nd (aH bX (pv 10) (al)))))) (ah (jQ PassesOwn.never (cy (b8 jx (aH cK (pv 3) (pv 8)) (pv 9))) (ah (sv 8 da.nd (aH cK (al) (pv 8))) (aj (sv 10 da.nd (aH dn (pv 10) (al)))))) (ah (sv 11 da.nd (pf (oh ak) hr (aa (aH cK (pv 5) (pv 8)) (aa (aH cK (pv 3) (pv 8)) (aa (aH cK (pv 6) (pv 8)) (aa (pv 9) (aa (pv 7) (ae)))))))) (ah (jQ PassesOwn.never (cy (b8 SQ (pv 11) Mf)) (ah (sv 8 da.nd (aH cK (al) (pv 8))) (ah (sv 10 da.nd (aH dn (pv 10) (al))) (aj (sv 11 da.nd (pf (oh ak) hr (aa (aH cK (pv 5) (pv 8)) (aa (aH cK (pv 3) (pv 8)) (aa (aH cK (pv 6) (pv 8)) (aa (pv 9) (aa (pv 7) (ae)))))))))))) (aj (aq (pf (xq ak) hr (aa (pv 11) (aa (pv 10) (ae)))))))))))))))))),br rfl rfl rfl ?p1 (fun a1 H1 s1 x1=>aW rfl rfl (x1) (bJ rfl rfl ?c1 ⟨.bl (decide ((BF.ta (BF.fm k) (X:Int)).size=2^(BF.fm k).m)&&decide (BF.az (BF.fm k)<(BF.ta (BF.fm k) (X:Int)).power)),ax rfl rfl (x1) rfl (bG rfl (uz hx.1) (bJ rfl rfl ?c2 (ck rfl rfl rfl (aK (fun h1=>ax rfl rfl (x1) rfl (eH rfl ?p2 (bG rfl rfl ?d1))) (fun h1=>?d2))))),bg rfl ⟨.int (if ((BF.ta (BF.fm k) (X:Int)).size=2^(BF.fm k).m∧BF.az (BF.fm k)<(BF.ta (BF.fm k) (X:Int)).power) then 1 else 2),aR rfl rfl (aK (fun h2=>?d3) (fun h2=>?d4)),bG rfl rfl (bP rfl rfl rfl (aW rfl rfl (x1) (bJ rfl rfl (show (0:Int)<2 by decide) (bG rfl rfl (aW rfl rfl (x1) (bG rfl rfl ⟨_,_,rfl,bJ rfl rfl ?c3 (aW rfl rfl (x1) (bG rfl rfl ⟨_,_,rfl,bJ rfl rfl ?c4 ?w1⟩))⟩))))))⟩⟩))⟩
 case p1=>exact hx
 case c1=>exact⟨b6 Ke Ke,sS.mono Ke⟩
 case c2=>exact aaJ Kk
 case p2=>exact hx.1
 case d1=>exact⟨by rw[←Jk (BF.fm k).m,h1];rfl,rfl⟩
 case d2=>exact⟨by rw[←Jk (BF.fm k).m,aV _ |>.mp h1];rfl,rfl⟩
 case d3=>have z:=jw.mp h2;exact⟨by rw[ao ⟨dt z.1,dt z.2⟩],rfl⟩
 case d4=>exact⟨by rw[ag fun z=>h2 (jw.mpr ⟨dv z.1,dv z.2⟩)],rfl⟩
 case c3=>exact⟨by split<;>omega,by split<;>omega,b6 Ke Ke⟩
 case c4=>exact⟨by split<;>omega,by split<;>omega,b6 Ke Ke⟩
 case w1 =>
  refine gW (fun (z:Int×Int) σ H'=>σ=[some (.int k),some (.int (X:Int)),some (.ref a1),some (.int (4*(BF.ta (BF.fm k) (X:Int)).size)),some (.bl (decide ((BF.ta (BF.fm k) (X:Int)).size=2^(BF.fm k).m)&&decide (BF.az (BF.fm k)<(BF.ta (BF.fm k) (X:Int)).power))),some (.int (4*(BF.ta (BF.fm k) (X:Int)).size-(if ((BF.ta (BF.fm k) (X:Int)).size=2^(BF.fm k).m∧BF.az (BF.fm k)<(BF.ta (BF.fm k) (X:Int)).power) then 1 else 2))),some (.int (4*(BF.ta (BF.fm k) (X:Int)).size+2)),some (.bl (decide ((BF.ta (BF.fm k) (X:Int)).size%2=0))),some (.int (1*2^(if (0:Int)>(BF.ta (BF.fm k) (X:Int)).power-2 then 0 else (BF.ta (BF.fm k) (X:Int)).power-2).toNat)),some (.int z.1),some (.int z.2),none]∧H'=H1∧BF.ip (BF.ta (BF.fm k) (X:Int)).power (1*2^(if (0:Int)>(BF.ta (BF.fm k) (X:Int)).power-2 then 0 else (BF.ta (BF.fm k) (X:Int)).power-2).toNat) z.1 z.2∧0≤z.2∧z.2≤308∧Sm (1100+4*z.2.toNat) z.1) (fun z=>(400-z.2).toNat) ((1*2^(if (0:Int)>2-(BF.ta (BF.fm k) (X:Int)).power then 0 else 2-(BF.ta (BF.fm k) (X:Int)).power).toNat),0) ⟨rfl,rfl,BF.ip.start _,by show (0:Int)≤0;decide,by show (0:Int)≤308;decide,sD.mono (by show 1100≤1100+4*(0:Int).toNat;decide)⟩ ?_;rintro⟨d',E⟩ σ H' ⟨rfl,hH,sc,e0,e1,sd⟩;subst H';dsimp only at sc e0 e1 sd;refine⟨(decide (10*d'≤4*(BF.ta (BF.fm k) (X:Int)).size*(1*2^(if (0:Int)>(BF.ta (BF.fm k) (X:Int)).power-2 then 0 else (BF.ta (BF.fm k) (X:Int)).power-2).toNat))),aR rfl rfl (bJ rfl rfl ?c5 (eK rfl rfl rfl ?c6 (ck rfl rfl rfl ?d5))),aK (fun h3=>eK rfl rfl rfl ?c7 (bP rfl rfl rfl ?e1)) (fun h3=>?w2)⟩
  case c5=>exact⟨sM.mono Ke,sU.mono Ke⟩
  case c6=>exact⟨b6 Ke Ke,sd.mono Kk⟩
  case d5=>exact⟨rfl,rfl⟩
  case c7=>exact⟨b6 Ke Ke,sd.mono Kk⟩
  case e1 =>
   have g:=(sc.ge10 (BF.ta (BF.fm k) (X:Int)).size).mp (dt h3);have l:=BF.jX.mp (show Lw.ten (E+1)<Lw.ten 309 by grind);exact⟨(10*d',E+1),⟨rfl,rfl,sc.I0,by show 0≤E+1;omega,by show E+1≤308;omega,(Sm.ten sd).mono (by show _≤1100+4*(E+1).toNat;omega)⟩,by show (400-(E+1)).toNat<(400-E).toNat;omega⟩
  case w2 =>
   have g:(((BF.ta (BF.fm k) (X:Int)).size:Rat)*Lw.two (BF.ta (BF.fm k) (X:Int)).power)<Lw.ten (E+1):=Rat.not_le.mp fun z=>df h3 ((sc.ge10 (BF.ta (BF.fm k) (X:Int)).size).mpr z);refine gW (fun (z:Int×Int) σ H'=>σ=[some (.int k),some (.int (X:Int)),some (.ref a1),some (.int (4*(BF.ta (BF.fm k) (X:Int)).size)),some (.bl (decide ((BF.ta (BF.fm k) (X:Int)).size=2^(BF.fm k).m)&&decide (BF.az (BF.fm k)<(BF.ta (BF.fm k) (X:Int)).power))),some (.int (4*(BF.ta (BF.fm k) (X:Int)).size-(if ((BF.ta (BF.fm k) (X:Int)).size=2^(BF.fm k).m∧BF.az (BF.fm k)<(BF.ta (BF.fm k) (X:Int)).power) then 1 else 2))),some (.int (4*(BF.ta (BF.fm k) (X:Int)).size+2)),some (.bl (decide ((BF.ta (BF.fm k) (X:Int)).size%2=0))),some (.int z.1),some (.int d'),some (.int z.2),none]∧H'=H1∧BF.ip (BF.ta (BF.fm k) (X:Int)).power z.1 d' z.2∧z.2≤308∧-326≤z.2∧(((BF.ta (BF.fm k) (X:Int)).size:Rat)*Lw.two (BF.ta (BF.fm k) (X:Int)).power)<Lw.ten (z.2+1)∧Sm (2048+4*(308-z.2).toNat) z.1) (fun z=>(z.2+400).toNat) ((1*2^(if (0:Int)>(BF.ta (BF.fm k) (X:Int)).power-2 then 0 else (BF.ta (BF.fm k) (X:Int)).power-2).toNat),E) ⟨rfl,rfl,sc,e1,by show -326≤E;omega,g,sU.mono (by show 2048≤2048+4*(308-E).toNat;omega)⟩ ?_;rintro⟨u,E2⟩ σ H' ⟨rfl,hH,Eu,f1,f0,g2,su⟩;subst H';dsimp only at Eu f1 f0 g2 su;have sdd:Sm 2400 d':=sd.mono Kk;have L7:Sm 4600 u:=su.mono Kk;refine⟨(decide (4*(BF.ta (BF.fm k) (X:Int)).size*u<d')),aR rfl rfl (bJ rfl rfl ?c8 (aE rfl rfl rfl rfl ?d6)),aK (fun h4=>eK rfl rfl rfl ?c9 (bP rfl rfl rfl ?e2)) (fun h4=>aR rfl rfl (bJ rfl rfl ?c10 (aR rfl rfl (bJ rfl rfl ?c11 (aR rfl rfl (bJ rfl rfl ?c12 (aR rfl rfl (j0 rfl ?p3 ?w3))))))))⟩
   case c8=>exact⟨sM.mono Ke,L7.mono Ke⟩
   case d6=>exact⟨rfl,rfl⟩
   case c9=>exact⟨b6 Ke Ke,L7.mono Ke⟩
   case e2 =>
    have g3:=(Eu.lt (BF.ta (BF.fm k) (X:Int)).size).mp (dt h4);have l:=BF.jX.mp (show Lw.ten (-325)<Lw.ten E2 by grind);exact⟨(10*u,E2-1),⟨rfl,rfl,Eu.Xd,by show E2-1≤308;omega,by show -326≤E2-1;omega,by show _<Lw.ten (E2-1+1);rw[show E2-1+1=E2 by omega];exact g3,(Sm.ten su).mono (by show _≤2048+4*(308-(E2-1)).toNat;omega)⟩,by show (E2-1+400).toNat<(E2+400).toNat;omega⟩
   case c10=>exact⟨sL.mono Ke,L7.mono Ke⟩
   case c11=>exact⟨sM.mono Ke,L7.mono Ke⟩
   case c12=>exact⟨sH.mono Ke,L7.mono Ke⟩
   case p3=>exact⟨Eu.d0,fH Kk (bo Eu.u0),sdd.mono Ke,(Sm.mul sM L7).mono Ke⟩
   case w3 =>
    have tE:Lw.ten E2≤(((BF.ta (BF.fm k) (X:Int)).size:Rat)*Lw.two (BF.ta (BF.fm k) (X:Int)).power):=dZ.mp fun z=>df h4 ((Eu.lt (BF.ta (BF.fm k) (X:Int)).size).mpr z);have L:=BF.N5 q0 b1 b2 tE g2;refine gW (fun (z:Nat×Int) σ H'=>σ=[some (.int k),some (.int (X:Int)),some (.ref a1),some (.int (4*(BF.ta (BF.fm k) (X:Int)).size)),some (.bl (decide ((BF.ta (BF.fm k) (X:Int)).size=2^(BF.fm k).m)&&decide (BF.az (BF.fm k)<(BF.ta (BF.fm k) (X:Int)).power))),some (.int (4*(BF.ta (BF.fm k) (X:Int)).size-(if ((BF.ta (BF.fm k) (X:Int)).size=2^(BF.fm k).m∧BF.az (BF.fm k)<(BF.ta (BF.fm k) (X:Int)).power) then 1 else 2))),some (.int (4*(BF.ta (BF.fm k) (X:Int)).size+2)),some (.bl (decide ((BF.ta (BF.fm k) (X:Int)).size%2=0))),some (.int z.2),some (.int d'),some (.int (E2-(z.1:Int))),some (MZ ((BF.js (BF.fm k) Y (((BF.ta (BF.fm k) (X:Int)).size:Rat)*Lw.two (BF.ta (BF.fm k) (X:Int)).power) (E2-(z.1:Int))).map Int.ofNat))]∧H'=H1∧BF.ip (BF.ta (BF.fm k) (X:Int)).power z.2 d' (E2-(z.1:Int))∧z.1<17∧(∀i:Nat,i<z.1→BF.js (BF.fm k) Y (((BF.ta (BF.fm k) (X:Int)).size:Rat)*Lw.two (BF.ta (BF.fm k) (X:Int)).power) (E2-(i:Int))=none)∧Sm (5000+4*z.1) z.2) (fun z=>20-z.1) (0,u) ⟨?_,rfl,by show BF.ip _ u d' (E2-((0:Nat):Int));rw[show E2-((0:Nat):Int)=E2 by omega];exact Eu,by show 0<17;decide,fun i hi=>absurd hi (Nat.not_lt_zero _),L7.mono (by show 4600≤5000+4*0;decide)⟩ ?_
    ·show _=[some (.int k),some (.int (X:Int)),some (.ref a1),some (.int (4*(BF.ta (BF.fm k) (X:Int)).size)),some (.bl (decide ((BF.ta (BF.fm k) (X:Int)).size=2^(BF.fm k).m)&&decide (BF.az (BF.fm k)<(BF.ta (BF.fm k) (X:Int)).power))),some (.int (4*(BF.ta (BF.fm k) (X:Int)).size-(if ((BF.ta (BF.fm k) (X:Int)).size=2^(BF.fm k).m∧BF.az (BF.fm k)<(BF.ta (BF.fm k) (X:Int)).power) then 1 else 2))),some (.int (4*(BF.ta (BF.fm k) (X:Int)).size+2)),some (.bl (decide ((BF.ta (BF.fm k) (X:Int)).size%2=0))),some (.int u),some (.int d'),some (.int (E2-((0:Nat):Int))),some (MZ ((BF.js (BF.fm k) Y (((BF.ta (BF.fm k) (X:Int)).size:Rat)*Lw.two (BF.ta (BF.fm k) (X:Int)).power) (E2-((0:Nat):Int))).map Int.ofNat))];rw[show E2-((0:Nat):Int)=E2 by omega,←BF.yX (BF.fm k) (BF.dm k) N tE Eu.d0 Eu.eq];rfl
    rintro⟨i,u3⟩ σ H' ⟨rfl,hH,RV,XS,hn,XT⟩;subst H';dsimp only at RV XS hn XT;have su4:Sm 5100 u3:=XT.mono Kk;have UW:Sm 5200 (10*u3):=(Sm.ten su4).mono Ke;show ∃c,_∧_;cases hd:BF.js (BF.fm k) Y (((BF.ta (BF.fm k) (X:Int)).size:Rat)*Lw.two (BF.ta (BF.fm k) (X:Int)).power) (E2-(i:Int)) with
    | none =>
     refine⟨true,eH rfl rfl (bg rfl ?d7),?_⟩
     case d7=>exact⟨rfl,rfl⟩
     rw[ao rfl];refine eK rfl rfl rfl ?c13 (bP rfl rfl rfl (aR rfl rfl (bJ rfl rfl ?c14 (aR rfl rfl (bJ rfl rfl ?c15 (aR rfl rfl (bJ rfl rfl ?c16 (aR rfl rfl (j0 rfl ?p4 ?e3)))))))))
     case c13=>exact⟨b6 Ke Ke,su4.mono Ke⟩
     case c14=>exact⟨sL.mono Ke,UW.mono Ke⟩
     case c15=>exact⟨sM.mono Ke,UW.mono Ke⟩
     case c16=>exact⟨sH.mono Ke,UW.mono Ke⟩
     case p4=>exact⟨Eu.d0,fH Kk (by have:=RV.u0;omega),sdd.mono Ke,(Sm.mul sM UW).mono Ke⟩
     case e3 =>
      have i16:i≠16:=by
       rintro rfl;obtain⟨D,hD⟩:=BF.MJ N;rw[L,hd] at hD;cases hD
      have eE:E2-(i:Int)-1=E2-((i+1:Nat):Int):=by omega
      refine⟨(i+1,10*u3),⟨?_,rfl,by show BF.ip _ (10*u3) d' (E2-((i+1:Nat):Int));rw[←eE];exact RV.Xd,by show i+1<17;omega,?_,(Sm.ten XT).mono (by show _≤5000+4*(i+1);omega)⟩,by show 20-(i+1)<20-i;omega⟩
      ·show _=[some (.int k),some (.int (X:Int)),some (.ref a1),some (.int (4*(BF.ta (BF.fm k) (X:Int)).size)),some (.bl (decide ((BF.ta (BF.fm k) (X:Int)).size=2^(BF.fm k).m)&&decide (BF.az (BF.fm k)<(BF.ta (BF.fm k) (X:Int)).power))),some (.int (4*(BF.ta (BF.fm k) (X:Int)).size-(if ((BF.ta (BF.fm k) (X:Int)).size=2^(BF.fm k).m∧BF.az (BF.fm k)<(BF.ta (BF.fm k) (X:Int)).power) then 1 else 2))),some (.int (4*(BF.ta (BF.fm k) (X:Int)).size+2)),some (.bl (decide ((BF.ta (BF.fm k) (X:Int)).size%2=0))),some (.int (10*u3)),some (.int d'),some (.int (E2-((i+1:Nat):Int))),some (MZ ((BF.js (BF.fm k) Y (((BF.ta (BF.fm k) (X:Int)).size:Rat)*Lw.two (BF.ta (BF.fm k) (X:Int)).power) (E2-((i+1:Nat):Int))).map Int.ofNat))];rw[←eE,←BF.yX (BF.fm k) (BF.dm k) N (Bf (BF.ql Kk) tE) RV.d0 RV.Xd.eq];rfl
      ·intro j hj;by_cases c:j<i
       ·exact hn j c
       ·rw[show j=i from Nat.le_antisymm (Nat.le_of_lt_succ hj) (DL c)];exact hd
    | some D =>
     refine⟨false,eH rfl rfl (bg rfl ?d7),?_⟩
     case d7=>exact⟨rfl,rfl⟩
     rw[ag Ke];have dl:=BF.Ja N XS (by rw[L];exact hd);refine br rfl rfl rfl ?p5 (fun a2 H2 s2 x2=>q _ _ ((s1).trans s2) (b4 (x2) ?r1))
     case p5=>exact⟨by show (0:Int)<((D:Nat):Int);omega,by show ((D:Nat):Int)<10^19;omega,Kk,Kk⟩
     case r1 =>
      rw[aN,eB,BF.wu (BF.fm k) Y _ XS (by rw[L];exact hn) (by rw[L];exact hd),L];rfl
def Ew (K:aP) (C:Addr):Sp:=fun vs H Q _=>∃k x,vs=[.int k,.int x]∧(VB k x∧BF.cp (BF.fm k) x=false)∧∀a H',aI H H'→H' a=some (.lst (ed (mY k x.toNat)))→Q (.ref a) H'
theorem Ey:aD ["kind","a"] ["kind","a"] (ay (top 125)):=bz
theorem G4 (ak:Ev K mg C C2 C3):cw P w K mg base "told_size" ["kind","a"] 7 (Ew K C):=by
 have T:=ak.T;refine cQ (ak.df 77) Ey lu (lx fun f bw A outer s H Q E hr k x h=>?_);obtain⟨⟨hx,h0⟩,q⟩:=h;obtain⟨X,rfl⟩:=aA hx.2.1;refine⟨_,ah (aS (aQ (pf (gB ak) hr (aa (pv 0) (aa (pv 1) (ae))))) (aj (aq (pf (jO ak) hr (aa (nG) (ae))))) (aB)) (ah (aS (aQ (pf (je ak) hr (aa (pv 0) (aa (pv 1) (ae))))) (aj (aq (pf (jO ak) hr (aa (nG) (ae))))) (aB)) (aj (aq (pf (JP ak) hr (aa (pv 0) (aa (pv 1) (ae))))))),bx rfl rfl rfl ?p1 rfl (aK (fun h1=>eH rfl ?p2 (fun a1 H1 s1 x1=>q _ _ (s1) (b4 (x1) ?r1))) (fun h1=>bx rfl rfl rfl ?p3 rfl (aK (fun h2=>eH rfl ?p4 (fun a2 H2 s2 x2=>q _ _ (s2) (b4 (x2) ?r2))) (fun h2=>br rfl rfl rfl ?p5 (fun a3 H3 s3 x3=>q _ _ (s3) (b4 (x3) ?r3))))))⟩
 case p1=>exact⟨hx.1,Kk⟩
 case p2=>decide +kernel
 case r1=>rw[aN];unfold mY;rw[ao h1,show (Str.ofString "inf").cps.toList=[105,110,102] by decide +kernel];rfl
 case p3=>exact⟨hx.1,Kk⟩
 case p4=>decide +kernel
 case r2=>rw[aN];unfold mY;rw[ag h1,ao h2,show (Str.ofString "0").cps.toList=[48] by decide +kernel];rfl
 case p5=>exact⟨hx,h0,aV _ |>.mp h1,aV _ |>.mp h2⟩
 case r3=>rw[aN];unfold mY;rw[ag h1,ag h2]
def RW (K:aP) (C:Addr):Sp:=fun vs H Q _=>∃k x,vs=[.int k,.int x]∧(VB k x∧(mY k x.toNat).length≤1000)∧∀a H',aI H H'→H' a=some (.lst (ed ((BF.fm k).text x.toNat)))→Q (.ref a) H'
theorem RX:aD ["kind","a"] ["kind","a"] (ay (top 124)):=bz
theorem UX (ak:Ev K mg C C2 C3):cw P w K mg base "told" ["kind","a"] 8 (RW K C):=by
 have T:=ak.T;refine cQ (ak.df 76) RX lu (lx fun f bw A outer s H Q E hr k x h=>?_);obtain⟨⟨hx,hlen⟩,q⟩:=h;obtain⟨X,rfl⟩:=aA hx.2.1;refine⟨_,ah (aS (aQ (pf (fz ak) hr (aa (pv 0) (aa (pv 1) (ae))))) (aj (aq (pf (jO ak) hr (aa (nG) (ae))))) (aB)) (aj (aq (aH FX (pf (jO ak) hr (aa (cZ (b9 (aQ (pf (dX ak) hr (aa (pv 0) (aa (pv 1) (ae))))) (nG) (nG))) (ae))) (pf (G4 ak) hr (aa (pv 0) (aa (pv 1) (ae))))))),bx rfl rfl rfl ?p1 rfl (aK (fun h1=>eH rfl ?p2 (fun a1 H1 s1 x1=>q _ _ (s1) (b4 (x1) ?r1))) (fun h1=>⟨.str (if BF.aU (BF.fm k)≤(X:Int) then Str.ofString "-" else Str.ofString ""),bx rfl rfl rfl ?p3 rfl (aK (fun h2=>?d1) (fun h2=>?d2)),eH rfl ?p4 (fun a2 H2 s2 x2=>br rfl rfl rfl ?p5 (fun a3 H3 s3 x3=>iq rfl rfl ((s3 _ _ (x2))) (x3) ⟨?n1,fun l4 j7=>q _ _ (((s2).trans s3).trans (ai j7)) (b4 (aL) ?r2)⟩))⟩))⟩
 case p1=>exact⟨hx.1,Kk⟩
 case p2=>decide +kernel
 case r1=>rw[aN,FG hx h1,show (Str.ofString "nan").cps.toList=[110,97,110] by decide +kernel];rfl
 case p3=>exact hx.1
 case d1=>exact⟨by rw[ao (dt h2)],rfl⟩
 case d2=>exact⟨by rw[ag (df h2)],rfl⟩
 case p4=>split<;>decide +kernel
 case p5=>exact⟨hx,aV _ |>.mp h1⟩
 case n1 =>
  rw[aF,aF];have l1:(if BF.aU (BF.fm k)≤(X:Int) then Str.ofString "-" else Str.ofString "").cps.toList.length≤1:=by split<;>decide +kernel
  unfold sizeLine;omega
 case r2 =>
  rw[aN,FH hx (aV _ |>.mp h1)];by_cases c:BF.aU (BF.fm k)≤(X:Int)
  ·rw[ao c,ao c,show (Str.ofString "-").cps.toList=[45] by decide +kernel];rfl
  ·rw[ag c,ag c,show (Str.ofString "").cps.toList=[] by decide +kernel];rfl
end
set_option smartUnfolding false
theorem kF:∀{x y:Lw.Bytes},ed x=ed y↔x=y
 | [],[]=>by simp
 | [],_::_=>by simp
 | _::_,[]=>by simp
 | c::x,d::y=>by
  have ih:=kF (x:=x) (y:=y);constructor
  ·intro h;injection h with h1 h2
   injection h1 with h1
   rw[ih.mp h2,UInt8.toNat_inj.mp (i7 h1)]
  ·intro h;rw[h]
theorem tN (x y:Lw.Bytes):wK (ed x) (ed y)=decide (x=y):=by unfold wK;exact tP.mpr kF
theorem RY (xs:List V) (n:Nat):gc xs none (some (n:Int))=xs.take n:=by
 unfold gc;rw[HT.sT,HT.oT,xI,Nat.sub_zero];by_cases h:n≤xs.length
 ·rw[mw h]
 ·rw[DV Kk,tR,ni Kk]
theorem L8 (xs:List V) (n:Nat):gc xs (some (n:Int)) none=xs.drop n:=by
 unfold gc;rw[HT.sT,HT.oT];by_cases h:n≤xs.length
 ·rw[mw h,ni (by rw[ez];omega)]
 ·rw[DV Kk,List.drop_length,xJ Kk];simp
theorem tO (xs:List V) (a c:Nat):gc xs (some (a:Int)) (some (c:Int))=(xs.drop a).take (c-a):=by
 unfold gc;rw[HT.oT,HT.oT];by_cases h:a≤xs.length
 ·rw[mw h];by_cases h2:c≤xs.length
  ·rw[mw h2]
  ·rw[DV Kk,ni (by rw[ez];omega),ni (by rw[ez];omega)]
 ·rw[DV (show xs.length≤a by omega),List.drop_length,xJ (show xs.length≤a by omega)];simp
theorem De (b:Lw.Bytes) (n:Nat):gc (ed b) none (some (n:Int))=ed (b.take n):=by rw[RY,←oJ]
theorem xt (b:Lw.Bytes) (n:Nat):gc (ed b) (some (n:Int)) none=ed (b.drop n):=by rw[L8,←oN]
theorem G5 (b:Lw.Bytes) (a c:Nat):gc (ed b) (some (a:Int)) (some (c:Int))=ed ((b.drop a).take (c-a)):=by rw[tO,←oN,←oJ]
theorem UY (b:Lw.Bytes):gc (ed b) none (some 1)=ed (b.take 1):=De b 1
theorem FJ (b:Lw.Bytes):gc (ed b) (some 1) none=ed (b.drop 1):=xt b 1
theorem OY (b:Lw.Bytes):gc (ed b) (some 2) none=ed (b.drop 2):=xt b 2
theorem RZ (b:Lw.Bytes):gc (ed b) (some 1) (some 2)=ed ((b.drop 1).take 1):=G5 b 1 2
theorem R0 {b:Lw.Bytes} {e:Nat} (h:e<b.length):lD (ed b) (e:Int)=some (.int ((b.getD e 0).toNat:Nat)):=RQ (dv (by rw[aF];omega))
theorem R4 {b:Lw.Bytes} (h:¬wK (ed b) []=true):b≠[]:=fun z=>h (by rw[z];rfl)
theorem at0 {b:Lw.Bytes} (h:¬wK (ed b) []=true):lD (ed b) 0=some (.int ((b.getD 0 0).toNat:Nat)):=R0 (e:=0) (List.length_pos_iff.mpr (R4 h))
theorem at1 {b:Lw.Bytes} (h:2≤b.length):lD (ed b) 1=some (.int ((b.getD 1 0).toNat:Nat)):=R0 (e:=1) Kk
theorem R5 (b:Lw.Bytes):BF.QO b=(wK (ed ((b.drop 1).take 1)) [V.int 43]||wK (ed ((b.drop 1).take 1)) [V.int 45]):=by
 rw[show [V.int 43]=ed [43] from rfl,show [V.int 45]=ed [45] from rfl,tN,tN];rfl
theorem M1 (x:Lw.Bytes):lA x (0:Int).toNat=(x.takeWhile Lw.isDigit).length:=by
 unfold lA;show 0+_=_;rw[lF];rfl
theorem G6 (b:Lw.Bytes):BF.uy b=(wK (ed (BF.kr b)) []||(decide (3<(((ed (BF.kr b)).length:Nat):Int))||decide (((lA (BF.kr b) (0:Int).toNat:Nat):Int)<(((ed (BF.kr b)).length:Nat):Int)))):=by
 rw[show ([]:List V)=ed [] from rfl,tN,M1,aF];unfold BF.uy;congr 2
 ·exact tP.mpr Kk
 ·exact tP.mpr Kk
theorem jm {x:Nat}:((!decide ((x:Int)=101))&&(!decide ((x:Int)=69)))=true↔x≠101∧x≠69:=by
 rw[b5];simp;omega
section
variable {P:Program} {w:World} {K:aP} {mg:Str→Option Value} {base:Heap} {C C2 C3:Addr}
def xu (K:aP) (C C3:Addr):Sp:=fun vs H Q E=>∃a b,vs=[.ref a]∧(bU K H a (ed b))∧(b.length≤60)∧(∀e,BF.fZ b=some e→Q (.int e) H)∧(BF.fZ b=none→E (.ref C3) none H)
theorem i5:aD ["text","has_sign","digits","size"] ["text"] (ay (top 132)):=bz
theorem yt (ak:Ev K mg C C2 C3):Ft C3 P w K mg base "read_exponent" ["text"] 2 (xu K C C3):=by
 have T:=ak.T;refine Q0 (ak.df 84) i5 lu (lx fun f bw A outer s H Q E hr a b h=>?_);obtain⟨o1,hl,q⟩:=h;refine⟨_,ah (aS (b8 (jI hr.units) (pv 0) (dz (ae))) (aj (aq (al))) (aB)) (ah (aS (cy (PW.pt (kf (b8 GA (et aZ (pv 0) (al)) (aG T.Q8 rfl)) (ke (b8 GA (et aZ (pv 0) (al)) (aG T.Xv rfl)))))) (aj (qs ak.no rfl)) (aB)) (ah (sv 1 i5.nd (MO (AV (iB (jI hr.units) (eW fX (pv 0) (dT (al)) (dT (al))) (dz (aa (aG T.aaI rfl) (ae)))) (jj (iB (jI hr.units) (eW fX (pv 0) (dT (al)) (dT (al))) (dz (aa (aG T.Lo rfl) (ae)))))))) (ah (sv 2 i5.nd (wJ (b9 (aQ (pv 1)) (eW fX (pv 0) (dT (al)) (ja)) (eW fX (pv 0) (dT (al)) (ja))))) (ah (aS (Um (PW.pt (dk (b8 (jI hr.units) (pv 2) (dz (ae))) (dk (b8 eY (bW cx rfl T.iu PySem.boot_len (aa (pv 2) (ae))) (aG T.qW rfl)) (dR (b8 jx (pf (kY ak) hr (aa (pv 2) (aa (al) (ae)))) (bW cx rfl T.iu PySem.boot_len (aa (pv 2) (ae))))))))) (aj (qs ak.no rfl)) (aB)) (ah (sv 3 i5.nd (pf (oj ak) hr (aa (pv 2) (ae)))) (aj (aq (cZ (b9 (b8 bp (et aZ (pv 0) (al)) (aG T.Lo rfl)) (iD gq (pv 3)) (pv 3)))))))))),eH rfl (by show _≤sizeLine;decide) (fun l1 dE=>pA rfl rfl (((ai dE)).seq (o1)) (bU.of (aL)) (by first | exact dO _ | exact dj _ | exact⟨[],rfl⟩ | exact⟨[_],rfl⟩ | exact⟨_,rfl⟩) (by first | exact dO _ | exact dj _ | exact⟨[],rfl⟩ | exact⟨[_],rfl⟩ | exact⟨_,rfl⟩) (bg rfl (aK (fun h1=>⟨(ai dE),?r1⟩) (fun h1=>⟨((!decide ((((b.getD 0 0).toNat:Nat):Int)=101))&&(!decide ((((b.getD 0 0).toNat:Nat):Int)=69))),bT rfl rfl rfl (((ai dE)).seq (o1)) (at0 h1) (ck rfl rfl rfl (aK (fun h3=>bT rfl rfl rfl (((ai dE)).seq (o1)) (at0 h1) (ck rfl rfl rfl ?d1)) (fun h3=>?d2))),aK (fun h2=>⟨(ai dE),?x1⟩) (fun h2=>⟨V.bl (BF.QO b),(fun H'=>aI _ H'),aW rfl rfl rfl (bG rfl (((ai dE)).seq (o1)) (fun l2 fo=>⟨(by show _≤sizeLine;decide),fun l3 iZ=>pA rfl rfl (bU.of (((ai iZ) _ _ ((b4 aL (RZ _)))))) (bU.of (aL)) (by first | exact dO _ | exact dj _ | exact⟨[],rfl⟩ | exact⟨[_],rfl⟩ | exact⟨_,rfl⟩) (by first | exact dO _ | exact dj _ | exact⟨[],rfl⟩ | exact⟨[_],rfl⟩ | exact⟨_,rfl⟩) (bg rfl (aK (fun h4=>⟨?d4,((ai fo)).trans (ai iZ)⟩) (fun h4=>aW rfl rfl rfl (bG rfl (((ai iZ)).seq (((ai fo)).seq (((ai dE)).seq (o1)))) (fun l4 j7=>⟨(by show _≤sizeLine;decide),fun l5 oE=>pA rfl rfl (bU.of (((ai oE) _ _ ((b4 aL (RZ _)))))) (bU.of (aL)) (by first | exact dO _ | exact dj _ | exact⟨[],rfl⟩ | exact⟨[_],rfl⟩ | exact⟨_,rfl⟩) (by first | exact dO _ | exact dj _ | exact⟨[],rfl⟩ | exact⟨[_],rfl⟩ | exact⟨_,rfl⟩) ⟨?d3,((((ai fo)).trans (ai iZ)).trans (ai j7)).trans (ai oE)⟩⟩)))))⟩)),fun M6 m6=>⟨(fun l H'=>aI _ H'∧bU K H' l (ed (BF.kr b))),aR rfl rfl (aK (fun h5=>br rfl rfl rfl ((m6).seq (((ai dE)).seq (o1))) (fun l7 Dg=>⟨_,rfl,(ai Dg),Q5 (bU.of ((b4 aL (OY _)))) ?d5⟩)) (fun h5=>br rfl rfl rfl ((m6).seq (((ai dE)).seq (o1))) (fun l8 Dh=>⟨_,rfl,(ai Dh),Q5 (bU.of ((b4 aL (FJ _)))) ?d6⟩))),fun l9 M9 ⟨m9,y9⟩=>⟨(BF.uy b),(fun H'=>aI _ H'),eH rfl (by show _≤sizeLine;decide) (fun l10 Di=>pA rfl rfl (((ai Di)).seq (y9)) (bU.of (aL)) (by first | exact dO _ | exact dj _ | exact⟨[],rfl⟩ | exact⟨[_],rfl⟩ | exact⟨_,rfl⟩) (by first | exact dO _ | exact dj _ | exact⟨[],rfl⟩ | exact⟨[_],rfl⟩ | exact⟨_,rfl⟩) (bg rfl (aK (fun h7=>⟨?d7,(ai Di)⟩) (fun h7=>bP rfl rfl (.inl (((ai Di)).seq (y9))) (ck rfl rfl rfl (aK (fun h8=>⟨?d8,(ai Di)⟩) (fun h8=>bg rfl (jt rfl (((ai Di)).seq (y9)) ?p1 (bP rfl rfl (.inl (((ai Di)).seq (y9))) (ck rfl rfl rfl ⟨?d9,(ai Di)⟩)))))))))),fun M11 UZ=>aK (fun h6=>⟨((((ai dE)).trans m6).trans m9).trans UZ,?x2⟩) (fun h6=>eK rfl rfl ((UZ).seq (y9)) ?p2 ⟨.int (if (b.getD 1 0).toNat=45 then -((Lw.numberOf (BF.kr b):Nat):Int) else ((Lw.numberOf (BF.kr b):Nat):Int)),bT rfl rfl rfl ((UZ).seq ((m9).seq ((m6).seq (((ai dE)).seq (o1))))) (at1 (BF.B4 h6).1) (ck rfl rfl rfl (aK (fun h9=>aR rfl rfl ?I0) (fun h9=>bg rfl ?RG))),⟨((((ai dE)).trans m6).trans m9).trans UZ,?r2⟩⟩)⟩⟩⟩)⟩))))⟩
 case r1=>exact q.1 0 (by rw[show b=[] from Classical.byContradiction fun z=>absurd (kF.mp (show ed b=ed [] from fu.mp h1)) z];rfl)
 all_goals have iY:=R4 h1
 case d1=>exact⟨by rw[h3];rfl,rfl⟩
 case d2=>exact⟨by rw[aV _ |>.mp h3];rfl,rfl⟩
 case x1=>exact q.2 (by rw[BF.n6 iY,ao (jm.mp h2)])
 all_goals have tV:=fun z=>h2 (jm.mpr z)
 case d3=>rw[R5,aV _ |>.mp h4];rfl
 case d4=>rw[R5,h4];rfl
 case d5=>unfold BF.kr;rw[ao h5]
 case d6=>unfold BF.kr;rw[ag h5]
 case d7=>rw[G6,h7];rfl
 case d8=>rw[G6,aV _ |>.mp h7,h8];rfl
 case d9=>rw[G6,aV _ |>.mp h7,aV _ |>.mp h8];rfl
 case p1=>show (0:Int)≤0;decide
 case x2=>exact q.2 (by rw[BF.n6 iY,ag tV,ao h6])
 all_goals have bl:=BF.B4 h6
 case p2=>exact⟨bl.2.1,Kk⟩
 case I0=>exact⟨by rw[ao (by have:=dt h9;omega)],rfl⟩
 case RG=>exact⟨by rw[ag (by have:=df h9;omega)],rfl⟩
 case r2=>exact q.1 _ (by rw[BF.n6 iY,ag tV,ag h6])
end
theorem XU (b:Lw.Bytes) (e:Nat):gc (ed b) (some (e:Int)) (some ((e:Int)+1))=ed ((b.drop e).take 1):=by
 have:=G5 b e (e+1);rw[show e+1-e=1 by omega] at this;exact this
theorem L9 (b:Lw.Bytes) (e:Nat):gc (ed b) (some ((e:Int)+1)) (some ((lA b ((e:Int)+1).toNat:Nat):Int))=ed ((b.drop (e+1)).takeWhile Lw.isDigit):=by
 have:=G5 b (e+1) (lA b ((e:Int)+1).toNat);have h2:lA b ((e:Int)+1).toNat-(e+1)=((b.drop (e+1)).takeWhile Lw.isDigit).length:=by
  rw[show ((e:Int)+1).toNat=e+1 by omega];unfold lA;omega
 rw[h2,BF.rR] at this;exact this
theorem M4 (x y:Lw.Bytes):ed x++ed y=ed (x++y):=(yI).symm
theorem xw {n:Nat} (h:n≤1100):Sm 4400 ((10:Int)^n):=by
 unfold Sm;rw[J1];show 10^n<_;have a:(10:Nat)^n≤10^1100:=fA Ke h;have c:(16:Nat)^1100=2^4400:=by rw[show (16:Nat)=2^4 from rfl,←DQ]
 have d:(10:Nat)^1100<16^1100:=Nat.pow_lt_pow_left Ke Ke;omega
theorem XV (b:Lw.Bytes):lA b (0:Int).toNat=(BF.wB b).length:=M1 b
theorem XW (b:Lw.Bytes):b.take (BF.wB b).length=BF.wB b:=BF.rR _ b
theorem XX (b:Lw.Bytes):(b.drop ((BF.wB b).length+1)).takeWhile Lw.isDigit=BF.fB b:=rfl
theorem U0 (b:Lw.Bytes):lA b (((BF.wB b).length:Int)+1).toNat=(BF.wB b).length+1+(BF.fB b).length:=by
 rw[show (((BF.wB b).length:Int)+1).toNat=(BF.wB b).length+1 by omega];rfl
theorem G7 {p:UInt8→Bool} {x:Lw.Bytes} {c:UInt8} (h:c∈x.takeWhile p):p c=true:=by
 induction x with
 | nil=>cases h
 | cons d x ih =>
  rw[sR] at h;split at h
  ·next hd =>
   rcases cO.mp h with rfl | h
   ·exact hd
   ·exact ih h
  ·cases h
theorem R6 {c:UInt8} (h:Lw.isDigit c=true):48≤c.toNat:=by
 unfold Lw.isDigit at h;rw[b5,bj] at h;exact h.1
theorem aa0 (b:Lw.Bytes):(BF.wB b).length≤b.length:=(List.takeWhile_sublist _).length_le
theorem aa1 (b:Lw.Bytes):(BF.fB b).length≤b.length:=by
 have:=(List.takeWhile_sublist Lw.isDigit (l:=b.drop ((BF.wB b).length+1))).length_le;rw[ez] at this;unfold BF.fB;omega
theorem R7 {b:Lw.Bytes} {z:Int} (h:b.length≤120) (h0:0≤z) (h1:z≤1100):RB ((Lw.numberOf b:Nat)*10^z.toNat) 1 0 :=
 ⟨⟨fH Kk (bo (An Ke)),Ke⟩,5400,64,(Sm.mul (xm h) (xw Kk)),b6 Ke Ke,Ke,Ke,Ke⟩
theorem M7 {b:Lw.Bytes} {z:Int} (h:b.length≤120) (h1:z≤1100):RB (Lw.numberOf b:Nat) (10^z.toNat) 0 :=
 ⟨⟨Kk,An Ke⟩,1000,4400,xm h,xw Kk,Ke,Ke,Ke⟩
section
variable {P:Program} {w:World} {K:aP} {mg:Str→Option Value} {base:Heap} {C C2 C3:Addr}
def z8 (K:aP) (C C3:Addr):Sp:=fun vs H Q E=>∃k m neg a b,vs=[.int k,.int m,.bl neg,.ref a]∧(bU K H a (ed b))∧(VK k∧VM m∧b.length≤60)∧(∀p,BF.gR b=some p→Q (.int (BF.kq (BF.fm k) (BF.md m) neg p.1 p.2)) H)∧(BF.gR b=none→E (.ref C3) none H)
theorem fg:aD ["kind","mode","negative","text","end","digits","fraction","start","n","exponent"] ["kind","mode","negative","text"] (ay (top 131)):=bz
set_option maxHeartbeats 4000000 in
theorem Dj (ak:Ev K mg C C2 C3):Ft C3 P w K mg base "read_digits" ["kind","mode","negative","text"] 4 (z8 K C C3):=by
 have T:=ak.T;refine Q0 (ak.df 83) fg B5 (B6 fun f bw A outer s H Q E hr k m neg a b h=>?_);obtain⟨o1,⟨hk,hm,hl⟩,q⟩:=h;refine⟨_,ah (sv 4 fg.nd (pf (kY ak) hr (aa (pv 3) (aa (al) (ae))))) (ah (sv 5 fg.nd (eW fX (pv 3) (ja) (dT (pv 4)))) (ah (sv 6 fg.nd (dz (ae))) (ah (aS (b8 (jI hr.units) (eW fX (pv 3) (dT (pv 4)) (dT (aH bX (pv 4) (al)))) (dz (aa (aG T.Xu rfl) (ae)))) (ah (sv 7 fg.nd (aH bX (pv 4) (al))) (ah (sv 4 fg.nd (pf (kY ak) hr (aa (pv 3) (aa (pv 7) (ae))))) (ah (sv 6 fg.nd (eW fX (pv 3) (dT (pv 7)) (dT (pv 4)))) (aj (aS (b8 (jI hr.units) (pv 6) (dz (ae))) (aj (qs ak.no rfl)) (aB)))))) (aB)) (ah (aS (b8 (jI hr.units) (pv 5) (dz (ae))) (aj (qs ak.no rfl)) (aB)) (ah (sv 8 fg.nd (pf (oj ak) hr (aa (aH FX (pv 5) (pv 6)) (ae)))) (ah (sv 9 fg.nd (aH dn (XA (yt ak) hr QZ (aa (eW fX (pv 3) (dT (pv 4)) (ja)) (ae))) (bW cx rfl T.iu PySem.boot_len (aa (pv 6) (ae))))) (ah (aS (b8 mx (pv 9) (al)) (aj (aq (pf (mT ak) hr (aa (pv 0) (aa (pv 1) (aa (pv 2) (aa (aH cK (pv 8) (pf (qM ak) hr (aa (pv 9) (ae)))) (aa (al) (aa (al) (ae)))))))))) (aB)) (aj (aq (pf (mT ak) hr (aa (pv 0) (aa (pv 1) (aa (pv 2) (aa (pv 8) (aa (pf (qM ak) hr (aa (iD gq (pv 9)) (ae))) (aa (al) (ae))))))))))))))))),bg rfl (jt rfl (o1) ?p1 (aW rfl rfl rfl (bG rfl (o1) (fun l1 dE=>⟨(by show _≤sizeLine;decide),fun l2 fo=>ax rfl rfl rfl rfl (ck rfl rfl rfl (bG rfl (((ai fo)).seq (((ai dE)).seq (o1))) (fun l3 iZ=>⟨(by show _≤sizeLine;decide),fun l4 j7=>pA rfl rfl (bU.of (((ai j7) _ _ ((b4 aL (XU _ _)))))) (bU.of (aL)) (by first | exact dO _ | exact dj _ | exact⟨[],rfl⟩ | exact⟨[_],rfl⟩ | exact⟨_,rfl⟩) (by first | exact dO _ | exact dj _ | exact⟨[],rfl⟩ | exact⟨[_],rfl⟩ | exact⟨_,rfl⟩) (bg rfl (aK (fun h1=>bP rfl rfl rfl (aR rfl rfl (jt rfl (((ai j7)).seq (((ai iZ)).seq (((ai fo)).seq (((ai dE)).seq (o1))))) ?p2 (ax rfl rfl rfl rfl (bP rfl rfl (((ai j7)).seq (((ai iZ)).seq (((ai fo)).seq (((ai dE)).seq (o1))))) (fun l5 oE=>eH rfl (by show _≤sizeLine;decide) (fun l6 Dk=>pA rfl rfl (bU.of (((ai Dk) _ _ ((b4 aL (L9 _ _)))))) (bU.of ((b4 (ys:=ed []) aL rfl))) (by first | exact dO _ | exact dj _ | exact⟨[],rfl⟩ | exact⟨[_],rfl⟩ | exact⟨_,rfl⟩) (by first | exact dO _ | exact dj _ | exact⟨[],rfl⟩ | exact⟨[_],rfl⟩ | exact⟨_,rfl⟩) (bg rfl (aK (fun h2=>⟨((((((ai dE)).trans (ai fo)).trans (ai iZ)).trans (ai j7)).trans (ai oE)).trans (ai Dk),?x1⟩) (fun h2=>eH rfl (by show _≤sizeLine;decide) (fun l7 Dg=>pA rfl rfl (bU.of (((ai Dg) _ _ (((ai Dk) _ _ (((ai oE) _ _ (((ai j7) _ _ (((ai iZ) _ _ (((ai fo) _ _ ((b4 aL (De _ _)))))))))))))))) (bU.of ((b4 (ys:=ed []) aL rfl))) (by first | exact dO _ | exact dj _ | exact⟨[],rfl⟩ | exact⟨[_],rfl⟩ | exact⟨_,rfl⟩) (by first | exact dO _ | exact dj _ | exact⟨[],rfl⟩ | exact⟨[_],rfl⟩ | exact⟨_,rfl⟩) (bg rfl (aK (fun h3=>⟨(((((((ai dE)).trans (ai fo)).trans (ai iZ)).trans (ai j7)).trans (ai oE)).trans (ai Dk)).trans (ai Dg),?x2⟩) (fun h3=>aR rfl rfl (iq rfl rfl (((ai Dg) _ _ (((ai Dk) _ _ (((ai oE) _ _ (((ai j7) _ _ (((ai iZ) _ _ (((ai fo) _ _ ((b4 aL (De _ _))))))))))))))) (((ai Dg) _ _ (((ai Dk) _ _ ((b4 aL (L9 _ _))))))) ⟨?n1,fun l8 Dh=>bJ rfl (bU.of ((b4 aL (M4 _ _)))) ?p3 (aW rfl rfl rfl (bG rfl (((ai Dh)).seq (((ai Dg)).seq (((ai Dk)).seq (((ai oE)).seq (((ai j7)).seq (((ai iZ)).seq (((ai fo)).seq (((ai dE)).seq (o1))))))))) (fun l9 U1=>bJ rfl (bU.of ((b4 aL (xt _ _)))) ?p4 ⟨fun z10 rC=>bP rfl rfl (.inl (bU.of (((ai U1) _ _ (((ai Dh) _ _ (((ai Dg) _ _ (((ai Dk) _ _ ((b4 aL (L9 _ _))))))))))))) (bG rfl rfl (aE rfl rfl rfl rfl (aK (fun h4=>ax rfl rfl rfl rfl (cP rfl rfl ?p5 (bJ rfl rfl ?c1 ⟨_,_,_,_,_,_,rfl,?p6,⟨(((((((((ai dE)).trans (ai fo)).trans (ai iZ)).trans (ai j7)).trans (ai oE)).trans (ai Dk)).trans (ai Dg)).trans (ai Dh)).trans (ai U1),?r1⟩⟩))) (fun h4=>ax rfl rfl rfl rfl (aR rfl rfl (eH rfl ?p7 ⟨_,_,_,_,_,_,rfl,?p8,⟨(((((((((ai dE)).trans (ai fo)).trans (ai iZ)).trans (ai j7)).trans (ai oE)).trans (ai Dk)).trans (ai Dg)).trans (ai Dh)).trans (ai U1),?r2⟩⟩)))))),fun rC=>⟨(((((((((ai dE)).trans (ai fo)).trans (ai iZ)).trans (ai j7)).trans (ai oE)).trans (ai Dk)).trans (ai Dg)).trans (ai Dh)).trans (ai U1),?x3⟩⟩)))⟩))))))))))))))) (fun h1=>eH rfl (by show _≤sizeLine;decide) (fun l11 pJ=>pA rfl rfl (bU.of (((ai pJ) _ _ (((ai j7) _ _ (((ai iZ) _ _ (((ai fo) _ _ ((b4 aL (De _ _)))))))))))) (bU.of ((b4 (ys:=ed []) aL rfl))) (by first | exact dO _ | exact dj _ | exact⟨[],rfl⟩ | exact⟨[_],rfl⟩ | exact⟨_,rfl⟩) (by first | exact dO _ | exact dj _ | exact⟨[],rfl⟩ | exact⟨[_],rfl⟩ | exact⟨_,rfl⟩) (bg rfl (aK (fun h5=>⟨(((((ai dE)).trans (ai fo)).trans (ai iZ)).trans (ai j7)).trans (ai pJ),?x4⟩) (fun h5=>aR rfl rfl (iq rfl rfl (((ai pJ) _ _ (((ai j7) _ _ (((ai iZ) _ _ (((ai fo) _ _ ((b4 aL (De _ _))))))))))) (((ai pJ) _ _ (((ai j7) _ _ (((ai iZ) _ _ ((b4 (ys:=ed []) aL rfl)))))))) ⟨?n2,fun l12 JQ=>bJ rfl (bU.of ((b4 aL (M4 _ _)))) ?p9 (aW rfl rfl rfl (bG rfl (((ai JQ)).seq (((ai pJ)).seq (((ai j7)).seq (((ai iZ)).seq (((ai fo)).seq (((ai dE)).seq (o1))))))) (fun l13 M8=>bJ rfl (bU.of ((b4 aL (xt _ _)))) ?Cm ⟨fun sA JR=>bP rfl rfl (.inl (bU.of (((ai M8) _ _ (((ai JQ) _ _ (((ai pJ) _ _ (((ai j7) _ _ (((ai iZ) _ _ ((b4 (ys:=ed []) aL rfl)))))))))))))) (bG rfl rfl (aE rfl rfl rfl rfl (aK (fun h6=>ax rfl rfl rfl rfl (cP rfl rfl ?Ef (bJ rfl rfl ?c2 ⟨_,_,_,_,_,_,rfl,?CB,⟨(((((((ai dE)).trans (ai fo)).trans (ai iZ)).trans (ai j7)).trans (ai pJ)).trans (ai JQ)).trans (ai M8),?r3⟩⟩))) (fun h6=>ax rfl rfl rfl rfl (aR rfl rfl (eH rfl ?LS ⟨_,_,_,_,_,_,rfl,?Jv,⟨(((((((ai dE)).trans (ai fo)).trans (ai iZ)).trans (ai j7)).trans (ai pJ)).trans (ai JQ)).trans (ai M8),?r4⟩⟩)))))),fun JR=>⟨(((((((ai dE)).trans (ai fo)).trans (ai iZ)).trans (ai j7)).trans (ai pJ)).trans (ai JQ)).trans (ai M8),?x5⟩⟩)))⟩))))))))⟩)))⟩))))⟩
 all_goals have wl:=aa0 b
 all_goals have fl:=aa1 b
 all_goals try simp only[XV,XW,XX,U0] at *
 case p1=>show (0:Int)≤0;decide
 case p2=>show (0:Int)≤_;omega
 case x1 =>
  have hp:=kF.mp (show ed ((b.drop (BF.wB b).length).take 1)=ed [46] from fu.mp h1);exact q.2 (by rw[BF.mQ hp,ao (kF.mp (fu.mp h2))])
 case x2 =>
  have hp:=kF.mp (show ed ((b.drop (BF.wB b).length).take 1)=ed [46] from fu.mp h1);have hf:¬BF.fB b=[]:=fun z=>h2 (fu.mpr (by rw[z]));exact q.2 (by rw[BF.mQ hp,ag hf,ao (kF.mp (fu.mp h3))])
 case n1=>rw[aF,aF];unfold sizeLine;omega
 case p3 =>
  refine⟨fun c hc=>R6 ?_,by rw[cT];omega⟩;rcases pL.mp hc with hc | hc
  ·exact G7 hc
  ·exact G7 hc
 case p4=>rw[ez];omega
 case x3 =>
  have hp:=kF.mp (show ed ((b.drop (BF.wB b).length).take 1)=ed [46] from fu.mp h1);have hf:¬BF.fB b=[]:=fun z=>h2 (fu.mpr (by rw[z]));have hw:¬BF.wB b=[]:=fun z=>h3 (fu.mpr (by rw[z]));exact q.2 (by rw[BF.mQ hp,ag hf,ag hw,rC];rfl)
 case p5=>have:=BF.kT rC;have:=dt h4;rw[aF] at *;exact⟨Kk,Kk⟩
 case c1 =>
  have:=BF.kT rC;exact⟨(xm (by rw[cT];omega)).mono Ke,(xw (by rw[aF];omega)).mono Ke⟩
 case p6 =>
  have:=BF.kT rC;have:=dt h4;exact⟨hk,hm,R7 (by rw[cT];omega) Kk (by rw[aF];omega)⟩
 case r1 =>
  have hp:=kF.mp (show ed ((b.drop (BF.wB b).length).take 1)=ed [46] from fu.mp h1);have hf:¬BF.fB b=[]:=fun z=>h2 (fu.mpr (by rw[z]));have hw:¬BF.wB b=[]:=fun z=>h3 (fu.mpr (by rw[z]));have R8:=dt h4;rw[aF] at R8;refine bD (q.1 (Lw.numberOf (BF.wB b++BF.fB b),z10-((BF.fB b).length:Int)) (by rw[BF.mQ hp,ag hf,ag hw,rC];rfl)) ?_;unfold BF.kq;rw[ao R8,aF]
 case p7=>have:=BF.kT rC;have:=df h4;rw[aF] at *;exact⟨Kk,Kk⟩
 case p8 =>
  have:=BF.kT rC;exact⟨hk,hm,M7 (by rw[cT];omega) (by rw[aF];omega)⟩
 case r2 =>
  have hp:=kF.mp (show ed ((b.drop (BF.wB b).length).take 1)=ed [46] from fu.mp h1);have hf:¬BF.fB b=[]:=fun z=>h2 (fu.mpr (by rw[z]));have hw:¬BF.wB b=[]:=fun z=>h3 (fu.mpr (by rw[z]));have R8:=df h4;rw[aF] at R8;refine bD (q.1 (Lw.numberOf (BF.wB b++BF.fB b),z10-((BF.fB b).length:Int)) (by rw[BF.mQ hp,ag hf,ag hw,rC];rfl)) ?_;unfold BF.kq;rw[ag R8,aF]
 all_goals have hp:¬(b.drop (BF.wB b).length).take 1=[46]:=fun z=>h1 (fu.mpr (by rw[z];rfl))
 case x4=>exact q.2 (by rw[BF.qp hp,ao (kF.mp (fu.mp h5))])
 all_goals have hw:¬BF.wB b=[]:=fun z=>h5 (fu.mpr (by rw[z]))
 case n2=>rw[aF];show _+0≤_;unfold sizeLine;omega
 case p9 =>
  rw[fW];exact⟨fun c hc=>R6 (G7 hc),Kk⟩
 case Cm=>rw[ez];omega
 case x5=>exact q.2 (by rw[BF.qp hp,ag hw,JR];rfl)
 all_goals have eb:=BF.kT JR
 case Ef=>have:=dt h6;exact⟨this,by show sA-0≤_;omega⟩
 case c2=>exact⟨(xm (by rw[fW];omega)).mono Ke,(xw (by show (sA-0).toNat≤_;omega)).mono Ke⟩
 case CB=>have:=dt h6;exact⟨hk,hm,R7 (by rw[fW];omega) this (by show sA-0≤_;omega)⟩
 case r3 =>
  have R9:=dt h6;refine bD (q.1 (Lw.numberOf (BF.wB b),sA) (by rw[BF.qp hp,ag hw,JR];rfl)) ?_;have e0:sA-(((ed []).length:Nat):Int)=sA:=by show sA-0=sA;omega
  rw[e0] at R9 ⊢;unfold BF.kq;rw[ao R9,fW]
 case LS=>have:=df h6;exact⟨by show 0≤-(sA-0);have:¬0≤sA-0:=this;omega,by show -(sA-0)≤_;omega⟩
 case Jv=>exact⟨hk,hm,M7 (by rw[fW];omega) (by show -(sA-0)≤_;omega)⟩
 case r4 =>
  have R9:=df h6;refine bD (q.1 (Lw.numberOf (BF.wB b),sA) (by rw[BF.qp hp,ag hw,JR];rfl)) ?_;have e0:sA-(((ed []).length:Nat):Int)=sA:=by show sA-0=sA;omega
  rw[e0] at R9 ⊢;unfold BF.kq;rw[ag R9,fW]
end
theorem Na (b:Lw.Bytes):wK (ed b) ((Str.ofString "nan").cps.toList.map fun (c:Nat)=>V.int c)=decide (b=Lw.NAN):=by
 rw[show (Str.ofString "nan").cps.toList=[110,97,110] by decide +kernel];exact tN b Lw.NAN
theorem U2 (b:Lw.Bytes):wK (ed b) ((Str.ofString "inf").cps.toList.map fun (c:Nat)=>V.int c)=decide (b=Lw.INF):=by
 rw[show (Str.ofString "inf").cps.toList=[105,110,102] by decide +kernel];exact tN b Lw.INF
theorem AN (b:Lw.Bytes):wK (ed (b.take 1)) [V.int 45]=decide (b.take 1=[45]):=tN (b.take 1) [45]
def rB (b:Lw.Bytes):Lw.Bytes:=if decide (b.take 1=[45])=true then b.drop 1 else b
section
variable {P:Program} {w:World} {K:aP} {mg:Str→Option Value} {base:Heap} {C C2 C3:Addr}
def Sa (K:aP) (C C3:Addr):Sp:=fun vs H Q E=>∃k m a b,vs=[.int k,.int m,.ref a]∧(bU K H a (ed b))∧(VK k∧VM m∧b.length≤60)∧(∀z,BF.jo (BF.fm k) (BF.md m) b=some z→Q (.int z) H)∧(BF.jo (BF.fm k) (BF.md m) b=none→E (.ref C3) none H)
theorem Dl:aD ["kind","mode","text","negative","size"] ["kind","mode","text"] (ay (top 130)):=bz
theorem U3 (ak:Ev K mg C C2 C3):Ft C3 P w K mg base "read" ["kind","mode","text"] 5 (Sa K C C3):=by
 have T:=ak.T;refine Q0 (ak.df 82) Dl qU (qV fun f bw A outer s H Q E hr k m a b h=>?_);obtain⟨o1,⟨hk,hm,hl⟩,q⟩:=h;refine⟨_,ah (aS (b8 (jI hr.units) (pv 2) (pf (jO ak) hr (aa (nG) (ae)))) (aj (aq (pf (fw ak) hr (aa (pv 0) (ae))))) (aB)) (ah (sv 3 Dl.nd (iB (jI hr.units) (eW fX (pv 2) (ja) (dT (al))) (dz (aa (aG T.Lo rfl) (ae))))) (ah (sv 4 Dl.nd (wJ (b9 (aQ (pv 3)) (eW fX (pv 2) (dT (al)) (ja)) (pv 2)))) (ah (aS (b8 (jI hr.units) (pv 4) (pf (jO ak) hr (aa (nG) (ae)))) (aj (aq (pf (fE ak) hr (aa (pv 0) (aa (pv 3) (aa (pf (cF ak) hr (aa (pv 0) (ae))) (ae))))))) (aB)) (aj (aq (XA (Dj ak) hr QZ (aa (pv 0) (aa (pv 1) (aa (pv 3) (aa (pv 4) (ae))))))))))),cP rfl rfl ?p1 (fun a1 H1 s1 x1=>pA rfl rfl ((s1).seq (o1)) (bU.of (x1)) (by first | exact dO _ | exact dj _ | exact⟨[],rfl⟩ | exact⟨[_],rfl⟩ | exact⟨_,rfl⟩) (by first | exact dO _ | exact dj _ | exact⟨[],rfl⟩ | exact⟨[_],rfl⟩ | exact⟨_,rfl⟩) (bg rfl (aK (fun h1=>cP rfl rfl ?p2 ⟨s1,?r1⟩) (fun h1=>br rfl rfl rfl ((s1).seq (o1)) (fun l2 fo=>⟨(by show _≤sizeLine;decide),fun l3 iZ=>pA rfl rfl (bU.of (((ai iZ) _ _ ((b4 aL (UY _)))))) (bU.of (aL)) (by first | exact dO _ | exact dj _ | exact⟨[],rfl⟩ | exact⟨[_],rfl⟩ | exact⟨_,rfl⟩) (by first | exact dO _ | exact dj _ | exact⟨[],rfl⟩ | exact⟨[_],rfl⟩ | exact⟨_,rfl⟩) ⟨(fun l H'=>aI _ H'∧bU K H' l (ed (rB b))),aR rfl rfl (aK (fun h2=>br rfl rfl rfl (((ai iZ)).seq (((ai fo)).seq ((s1).seq (o1)))) (fun l4 j7=>⟨_,rfl,(ai j7),Q5 (bU.of ((b4 aL (FJ _)))) ?d1⟩)) (fun h2=>bg rfl ⟨_,rfl,aI.refl _,Q5 (((ai iZ)).seq (((ai fo)).seq ((s1).seq (o1)))) ?d2⟩)),fun l5 M5 ⟨m5,y5⟩=>cP rfl rfl ?p3 (fun a6 H6 s6 x6=>pA rfl rfl ((s6).seq (y5)) (bU.of (x6)) (by first | exact dO _ | exact dj _ | exact⟨[],rfl⟩ | exact⟨[_],rfl⟩ | exact⟨_,rfl⟩) (by first | exact dO _ | exact dj _ | exact⟨[],rfl⟩ | exact⟨[_],rfl⟩ | exact⟨_,rfl⟩) (bg rfl (aK (fun h3=>aW rfl rfl rfl (eH rfl ?p4 (e7 rfl ?p5 ⟨((((s1).trans (ai fo)).trans (ai iZ)).trans m5).trans s6,?r2⟩))) (fun h3=>ax rfl rfl rfl rfl (j0 rfl ((s6).seq (y5)) ⟨?p6,⟨fun z7 XY=>⟨((((s1).trans (ai fo)).trans (ai iZ)).trans m5).trans s6,?r3⟩,fun XY=>⟨((((s1).trans (ai fo)).trans (ai iZ)).trans m5).trans s6,?x1⟩⟩⟩)))))⟩⟩)))))⟩
 case p1=>decide +kernel
 case p2=>exact hk
 case r1 =>
  rw[Na] at h1;exact q.1 _ (by unfold BF.jo;rw[ao (dt h1)])
 all_goals rw[Na] at h1
 all_goals have eB:BF.jo (BF.fm k) (BF.md m) b=if rB b=Lw.INF then some (BF.ws (BF.fm k) (decide (b.take 1=[45])) (BF.bE (BF.fm k))) else (BF.gR (rB b)).map fun p=>BF.kq (BF.fm k) (BF.md m) (decide (b.take 1=[45])) p.1 p.2:=by unfold BF.jo;rw[ag (df h1)];rfl
 case d1=>rw[AN] at h2;unfold rB;rw[ao h2]
 case d2=>rw[AN] at h2;unfold rB;rw[ag h2]
 case p3=>decide +kernel
 case p4=>exact hk
 case p5=>exact hk
 all_goals try rw[U2] at h3
 case r2=>exact bD (q.1 _ (by rw[eB,ao (dt h3)])) (by rw[AN])
 case p6 =>
  refine⟨hk,hm,?_⟩;unfold rB;split
  ·rw[ez];omega
  ·exact hl
 case r3=>exact bD (q.1 _ (by rw[eB,ag (df h3),XY];rfl)) (by rw[AN])
 case x1=>exact q.2 (by rw[eB,ag (df h3),XY];rfl)
end
abbrev fh (l:List Int):List V:=l.map V.int
structure fR (K:aP) (H:Hp) (a:Addr) (as:List Addr) (rs:List (List Int)):Prop where
 sq:bU K H a (as.map V.ref)
 len:as.length=rs.length
 row:∀(i:Nat) (x:Addr) (r:List Int),as[i]?=some x→rs[i]?=some r→bU K H x (fh r)
theorem fR.same {K:aP} {H H':Hp} {a:Addr} {as:List Addr} {rs:List (List Int)} (h:fR K H a as rs) (s:aI H H'):fR K H' a as rs:=⟨s.seq h.sq,h.len,fun i x r e1 e2=>s.seq (h.row i x r e1 e2)⟩
def kJ (k:Int) (rs:List (List Int)):Bool:=decide (k≤3)&&(rs.map fun r=>decide ((r.length:Int)=BF.nb (BF.fm k))).all id
theorem Dm {k:Int} {rs:List (List Int)}:kJ k rs=true↔k≤3∧∀r∈rs,(r.length:Int)=BF.nb (BF.fm k):=by
 unfold kJ;rw[b5,bj,List.all_map,nB];simp
theorem j1 {k:Int} {r:List Int}:kJ k [r]=true↔k≤3∧(r.length:Int)=BF.nb (BF.fm k):=by rw[Dm];simp
theorem j3 {k:Int} {r1 r2:List Int}:kJ k [r1,r2]=true↔k≤3∧(r1.length:Int)=BF.nb (BF.fm k)∧(r2.length:Int)=BF.nb (BF.fm k):=by rw[Dm];simp
theorem kK {k:Int} {r1 r2 r3:List Int}:kJ k [r1,r2,r3]=true↔k≤3∧(r1.length:Int)=BF.nb (BF.fm k)∧(r2.length:Int)=BF.nb (BF.fm k)∧(r3.length:Int)=BF.nb (BF.fm k):=by rw[Dm];simp
theorem mZ {k:Int} {r:List Int} (h:(r.length:Int)=BF.nb (BF.fm k)):r.length≤8:=by have:=BF.gA k;omega
theorem gG {k:Int} {r:List Int} (h0:0≤k) (h3:k≤3) (hb:BF.cS r) (h:(r.length:Int)=BF.nb (BF.fm k)):VB k (BF.cj r):=by
 have a:=BF.pq k hb h;have b:=(BF.gS hb).1;refine⟨⟨h0,h3⟩,b,?_⟩;rw[←BF.dY];omega
theorem Dn {X:Cx} {K:aP} (h:X.K=K):pS X (.builtin "len") (fun xs H Q=>∃p ys,xs=[V.ref p]∧(bU K H p ys∨j5 K H p ys)∧Q (V.int ys.length) H):=by subst h;exact cx
theorem OZ {X:Cx} {K:aP} (h:X.K=K):SZ X (Vq K):=by subst h;exact fX
section
variable {P:Program} {w:World} {K:aP} {mg:Str→Option Value} {base:Heap} {C C2 C3:Addr}
def JS (K:aP) (C:Addr):Sp:=fun vs H Q _=>∃k a as rs,vs=[.int k,.ref a]∧(fR K H a as rs)∧(0≤k∧as.length≤3)∧Q (.bl (kJ k rs)) H
theorem sC:aD ["kind","rows","row"] ["kind","rows"] (ay (top 148)):=bz
theorem iJ (ak:Ev K mg C C2 C3):cw P w K mg base "all_fit" ["kind","rows"] 2 (JS K C):=by
 have T:=ak.T;refine bc (ak.df 91) sC qU (qV fun f bw A outer s H Q E hr k a as rs h=>?_);obtain⟨o1,⟨h0,ha3⟩,q⟩:=h;refine⟨_,aj (aq (MO (lP (iB A0 (pv 0) (aG T.kU rfl)) (jj (bW (S9 rfl) rfl T.Xx boot_all (aa (uP rfl sC.nd (oQ (pv 1)) (own:=[("row",2)]) (jl rfl) (fun _ _ _ _ _=>eM (i:=2) sC.nd rfl (Or.inl rfl)) (fun _ _ _ _ _=>kh) (fun _ _ _ _ _=>iB bp (bW (Dn (K:=K) rfl) rfl T.iu PySem.boot_len (aa (pv 2) (ae))) (pf (jE ak) hr (aa (pv 0) (ae))))) (ae))))))),⟨V.bl (kJ k rs),(fun H'=>aI _ H'),aE rfl rfl rfl rfl (aK (fun h1=>cP rfl rfl ⟨_,((o1)).sq⟩ (fun D1 yo=>?k1)) (fun h1=>⟨?d2,aI.refl _⟩)),fun M2 m2=>⟨m2,?r1⟩⟩⟩
 case d2=>unfold kJ;rw[aV _ |>.mp h1];rfl
 case k1 =>
  have k3:=dt h1;have ol:=o1.len;refine mf rs.length (by unfold sizeLine;omega) yo (fun i v _=>∃r,rs[i]?=some r∧v=.bl (decide ((r.length:Int)=BF.nb (BF.fm k)))) (fun _ _ _ _ _ e=>e) (fun _ _ _ _ _ _ e=>e) ?_ ?_
  ·intro i Hi Kx hi si hK;have xa:as[i]?=some (as[i]'Kk):=bI Kk;have xb:rs[i]?=some (rs[i]'hi):=bI hi;refine⟨⟨_,_,si.seq o1.sq,by rw[aT,xa];rfl⟩,?_⟩;rintro v H2 ⟨rfl,hv⟩;have ex:=hv _ (si.seq o1.sq);rw[aT,xa] at ex;have xr:=o1.row i _ _ xa xb;generalize as[i]'Kk=x at *;generalize rs[i]'hi=r at *;obtain rfl:V.ref x=v:=bM ex;refine⟨rfl,aE rfl rfl (.inl ((si).seq (xr))) rfl (eH rfl ?p1 (bG rfl rfl ?e1))⟩
   case p1=>exact⟨h0,k3⟩
   case e1=>exact hK _ _ (aI.refl _) ⟨r,xb,by rw[aF]⟩
  ·intro H2 acc mX ha hl hv;have e:acc=(rs.map fun r=>decide ((r.length:Int)=BF.nb (BF.fm k))).map V.bl:=by
    refine j8 fun i=>?_;by_cases c:i<acc.length
    ·obtain⟨r,e1,e2⟩:=hv i _ (bI c);rw[bI c,e2,aT,aT,e1];rfl
    ·rw[eP Kk,eP (by simp;omega)]
   subst e;have sj:=ha;refine⟨⟨_,mX.seq o1.sq,by simp[ol]⟩,?_⟩;refine bG rfl (bU.of (sj)) ⟨?d1,mX⟩
   case d1=>unfold kJ;rw[h1];rfl
 case r1=>exact q
def Dq (K:aP) (C:Addr):Sp:=fun vs H Q _=>∃a xs,vs=[.ref a]∧(H a=some (.lst xs))∧(xs.length≤2000)∧∀l H',H l=none→aI H H'→H' l=some (.lst (V.int 0::V.int xs.length::xs))→Q (.ref l) H'
theorem Dr:aD ["row"] ["row"] (ay (top 149)):=bz
theorem uC (ak:Ev K mg C C2 C3):cw P w K mg base "with_count" ["row"] 1 (Dq K C):=by
 have T:=ak.T;refine cQ (ak.df 92) Dr lu (lx fun f bw A outer s H Q E hr a xs h=>?_);obtain⟨o1,hp,q⟩:=h;refine⟨_,aj (aq (aH FX (dz (aa (aG T.Ji rfl) (aa (bW cx rfl T.iu PySem.boot_len (aa (pv 0) (ae))) (ae)))) (pv 0))),eK rfl rfl (.inl (bU.of (o1))) (by show 2≤sizeLine;decide) (fun l1 dE=>bT rfl rfl rfl (aL) (((ai dE) _ _ (o1))) ⟨?n1,fun l2 fo=>q _ _ (((ai dE)).free fo) (((ai dE)).trans (ai fo)) (b4 (aL) ?r1)⟩)⟩
 case n1=>show 2+xs.length≤_;unfold sizeLine;omega
 case r1=>rfl
def xx (K:aP) (C:Addr):Sp:=fun vs H Q _=>∃k x,vs=[.int k,.int x]∧(VK k∧0≤x)∧∀l H',H l=none→aI H H'→H' l=some (.lst (fh (BF.ia (BF.fm k) x.toNat)))→Q (.ref l) H'
theorem xy:aD ["kind","bits"] ["kind","bits"] (ay (top 150)):=bz
theorem ee (ak:Ev K mg C C2 C3):cw P w K mg base "number_answer" ["kind","bits"] 3 (xx K C):=by
 have T:=ak.T;refine cQ (ak.df 93) xy lu (lx fun f bw A outer s H Q E hr k x h=>?_);obtain⟨hx,q⟩:=h;obtain⟨X,rfl⟩:=aA hx.2;have JG:=BF.gA k;refine⟨_,aj (aq (pf (uC ak) hr (aa (pf (CV ak) hr (aa (pv 0) (aa (pv 1) (ae)))) (ae)))),br rfl rfl rfl ?p1 (fun a1 H1 s1 x1=>bJ rfl (x1) ?p2 (fun a2 H2 n2 s2 x2=>q _ _ ((s1).free n2) ((s1).trans s2) (b4 (x2) ?r1)))⟩
 case p1=>exact hx
 case p2=>rw[aF];unfold BF.ux;rw[aF,rk];omega
 case r1 =>
  rw[aN,aF];unfold BF.ia;have e:((BF.ux (BF.fm k) (X:Int)).length:Int)=BF.nb (BF.fm k):=by unfold BF.ux;rw[aF,rk];omega
  rw[e];rfl
end
theorem fG {b:Bool}:((!b)=true)↔¬b=true:=by cases b<;>simp
theorem nt {b:Bool} (h:¬b=true):b=false:=aV _ |>.mp h
section
variable {P:Program} {w:World} {K:aP} {mg:Str→Option Value} {base:Heap} {C C2 C3:Addr}
def Ez (K:aP) (C:Addr):Sp:=fun vs H Q _=>∃k n m a x y r1 r2,vs=[.int k,.int n,.int m,.ref a]∧(fR K H a [x,y] [r1,r2])∧((0≤k∧0≤n∧0≤m)∧BF.cS r1∧BF.cS r2)∧∀l H',H l=none→aI H H'→H' l=some (.lst (fh (NumNeutral.step NumCalls.start [[0,k,n,m],r1,r2]).2))→Q (.ref l) H'
theorem EA:aD ["kind","number","mode","rows"] ["kind","number","mode","rows"] (ay (top 151)):=bz
theorem G8 (ak:Ev K mg C C2 C3):cw P w K mg base "answer_op" ["kind","number","mode","rows"] 7 (Ez K C):=by
 have T:=ak.T;refine cQ (ak.df 94) EA Xf (Xh fun f bw A outer s H Q E hr k n m a x y r1 r2 h=>?_);obtain⟨o1,⟨⟨hk,hn,hm⟩,b1,b2⟩,q⟩:=h;refine⟨_,ah (aS (cy (PW.pt (dk (i0 (aQ (pf (iJ ak) hr (aa (pv 0) (aa (pv 3) (ae)))))) (dk (b8 eY (pv 1) (aG T.zJ rfl)) (dR (b8 eY (pv 2) (aG T.g8 rfl))))))) (aj (aq (dz (aa (aG T.gT rfl) (ae))))) (aB)) (aj (aq (pf (ee ak) hr (aa (pv 0) (aa (pf (GS ak) hr (aa (pv 0) (aa (pv 1) (aa (pv 2) (aa (pf (dr ak) hr (aa (et aZ (pv 3) (al)) (ae))) (aa (pf (dr ak) hr (aa (et aZ (pv 3) (al)) (ae))) (ae))))))) (ae)))))),⟨(!kJ k [r1,r2]||(decide (10<n)||decide (4<m))),aR rfl rfl (gk rfl (o1) ?p1 (bg rfl (aK (fun h2=>?d1) (fun h2=>aE rfl rfl rfl rfl (aK (fun h3=>?d2) (fun h3=>aE rfl rfl rfl rfl ?d3)))))),aK (fun h1=>⟨(by show _≤sizeLine;decide),fun l1 dE=>q _ _ ((aI.refl _).free dE) ((ai dE)) (b4 (aL) ?r1)⟩) (fun h1=>ax rfl rfl rfl rfl (bT rfl rfl rfl ((o1)).sq rfl (bJ rfl ((o1.row 0 _ _ rfl rfl)) ?p2 (bT rfl rfl rfl ((o1)).sq rfl (bJ rfl ((o1.row 1 _ _ rfl rfl)) ?p3 (j0 rfl ?p4 (bG rfl ?p5 (fun a2 H2 n2 s2 x2=>q _ _ ((aI.refl _).free n2) (s2) (b4 (x2) ?r2)))))))))⟩⟩
 case p1=>exact⟨hk,by show 2≤3;decide⟩
 case d1=>exact⟨by rw[h2];rfl,rfl⟩
 case d2=>exact⟨by rw[nt h2,h3];rfl,rfl⟩
 case d3=>exact⟨by rw[nt h2,nt h3];rfl,rfl⟩
 case r1 =>
  simp only[Bool.or_eq_true,fG,decide_eq_true_eq,j1,j3,kK] at h1;rw[BF.Gs _ hk hn hm b1 b2];dsimp only;rw[if_neg Kk];rfl
 all_goals simp only[bR,fG,dH,j1,j3,kK] at h1
 case p2=>exact⟨b1,mZ (k:=k) Kk⟩
 case p3=>exact⟨b2,mZ (k:=k) Kk⟩
 case p4=>exact⟨⟨hm,Kk⟩,gG hk Kk b1 Kk,gG hk Kk b2 Kk,hn,Kk⟩
 case p5=>exact⟨⟨hk,Kk⟩,fL _⟩
 case r2 =>
  rw[BF.Gs _ hk hn hm b1 b2,Int.toNat_natCast];dsimp only;rw[if_pos Kk]
def yu (K:aP) (C:Addr):Sp:=fun vs H Q _=>∃k m e a x r1,vs=[.int k,.int m,.int e,.ref a]∧(fR K H a [x] [r1])∧((0≤k∧0≤m)∧BF.cS r1)∧∀l H',H l=none→aI H H'→H' l=some (.lst (fh (NumNeutral.step NumCalls.start [[2,k,m,e],r1]).2))→Q (.ref l) H'
theorem yw:aD ["kind","mode","k","rows"] ["kind","mode","k","rows"] (ay (top 153)):=bz
theorem z9 (ak:Ev K mg C C2 C3):cw P w K mg base "answer_scale" ["kind","mode","k","rows"] 6 (yu K C):=by
 have T:=ak.T;refine cQ (ak.df 96) yw QS (QT fun f bw A outer s H Q E hr k m e a x r1 h=>?_);obtain⟨o1,⟨⟨hk,hm⟩,b1⟩,q⟩:=h;refine⟨_,ah (aS (cy (PW.pt (dk (i0 (aQ (pf (iJ ak) hr (aa (pv 0) (aa (pv 3) (ae)))))) (dk (b8 eY (pv 1) (aG T.g8 rfl)) (dR (b8 eY (bW oS rfl T.Cg boot_abs (aa (pv 2) (ae))) (aG T.zL rfl))))))) (aj (aq (dz (aa (aG T.gT rfl) (ae))))) (aB)) (aj (aq (pf (ee ak) hr (aa (pv 0) (aa (pf (yj ak) hr (aa (pv 0) (aa (pv 1) (aa (pf (dr ak) hr (aa (et aZ (pv 3) (al)) (ae))) (aa (pv 2) (ae)))))) (ae)))))),⟨(!kJ k [r1]||(decide (4<m)||decide (5000<(if e<0 then -e else e)))),aR rfl rfl (gk rfl (o1) ?p1 (bg rfl (aK (fun h2=>?d1) (fun h2=>aE rfl rfl rfl rfl (aK (fun h3=>?d2) (fun h3=>bx rfl rfl rfl rfl rfl ?d3)))))),aK (fun h1=>⟨(by show _≤sizeLine;decide),fun l1 dE=>q _ _ ((aI.refl _).free dE) ((ai dE)) (b4 (aL) ?r1)⟩) (fun h1=>ax rfl rfl rfl rfl (iq rfl rfl ((o1)).sq rfl (bJ rfl ((o1.row 0 _ _ rfl rfl)) ?p2 (bg rfl (gK rfl ?p3 (bG rfl ?p4 (fun a2 H2 n2 s2 x2=>q _ _ ((aI.refl _).free n2) (s2) (b4 (x2) ?r2))))))))⟩⟩
 case p1=>exact⟨hk,by show 1≤3;decide⟩
 case d1=>exact⟨by rw[h2];rfl,rfl⟩
 case d2=>exact⟨by rw[nt h2,h3];rfl,rfl⟩
 case d3=>exact⟨by rw[nt h2,nt h3];rfl,rfl⟩
 case r1 =>
  simp only[Bool.or_eq_true,fG,decide_eq_true_eq,j1,j3,kK] at h1;rw[BF.tu _ hk hm b1];dsimp only;rw[if_neg Kk];rfl
 all_goals simp only[bR,fG,dH,j1,j3,kK] at h1
 case p2=>exact⟨b1,mZ (k:=k) Kk⟩
 case p3=>exact⟨⟨hm,Kk⟩,gG hk Kk b1 Kk,Kk,Kk⟩
 case p4=>exact⟨⟨hk,Kk⟩,fL _⟩
 case r2 =>
  rw[BF.tu _ hk hm b1,Int.toNat_natCast];dsimp only;rw[if_pos Kk]
def Aa (K:aP) (C:Addr):Sp:=fun vs H Q _=>∃j k m a x r1,vs=[.int j,.int k,.int m,.ref a]∧(fR K H a [x] [r1])∧((0≤j∧0≤k∧0≤m)∧BF.cS r1)∧∀l H',H l=none→aI H H'→H' l=some (.lst (fh (NumNeutral.step NumCalls.start [[3,j,k,m],r1]).2))→Q (.ref l) H'
theorem Ab:aD ["from_kind","to_kind","mode","rows"] ["from_kind","to_kind","mode","rows"] (ay (top 154)):=bz
theorem Ds (ak:Ev K mg C C2 C3):cw P w K mg base "answer_conv" ["from_kind","to_kind","mode","rows"] 6 (Aa K C):=by
 have T:=ak.T;refine cQ (ak.df 97) Ab QS (QT fun f bw A outer s H Q E hr j k m a x r1 h=>?_);obtain⟨o1,⟨⟨hj,hk,hm⟩,b1⟩,q⟩:=h;refine⟨_,ah (aS (cy (PW.pt (dk (i0 (aQ (pf (iJ ak) hr (aa (pv 0) (aa (pv 3) (ae)))))) (dk (b8 eY (pv 1) (aG T.kU rfl)) (dR (b8 eY (pv 2) (aG T.g8 rfl))))))) (aj (aq (dz (aa (aG T.gT rfl) (ae))))) (aB)) (aj (aq (pf (ee ak) hr (aa (pv 1) (aa (pf (l0 ak) hr (aa (pv 0) (aa (pv 1) (aa (pv 2) (aa (pf (dr ak) hr (aa (et aZ (pv 3) (al)) (ae))) (ae)))))) (ae)))))),⟨(!kJ j [r1]||(decide (3<k)||decide (4<m))),aR rfl rfl (gk rfl (o1) ?p1 (bg rfl (aK (fun h2=>?d1) (fun h2=>aE rfl rfl rfl rfl (aK (fun h3=>?d2) (fun h3=>aE rfl rfl rfl rfl ?d3)))))),aK (fun h1=>⟨(by show _≤sizeLine;decide),fun l1 dE=>q _ _ ((aI.refl _).free dE) ((ai dE)) (b4 (aL) ?r1)⟩) (fun h1=>ax rfl rfl rfl rfl (bT rfl rfl rfl ((o1)).sq rfl (bJ rfl ((o1.row 0 _ _ rfl rfl)) ?p2 (gK rfl ?p3 (bG rfl ?p4 (fun a2 H2 n2 s2 x2=>q _ _ ((aI.refl _).free n2) (s2) (b4 (x2) ?r2)))))))⟩⟩
 case p1=>exact⟨hj,by show 1≤3;decide⟩
 case d1=>exact⟨by rw[h2];rfl,rfl⟩
 case d2=>exact⟨by rw[nt h2,h3];rfl,rfl⟩
 case d3=>exact⟨by rw[nt h2,nt h3];rfl,rfl⟩
 case r1 =>
  simp only[Bool.or_eq_true,fG,decide_eq_true_eq,j1,j3,kK] at h1;rw[BF.wC _ hj hk hm b1];dsimp only;rw[if_neg Kk];rfl
 all_goals simp only[bR,fG,dH,j1,j3,kK] at h1
 case p2=>exact⟨b1,mZ (k:=j) Kk⟩
 case p3=>exact⟨⟨hm,Kk⟩,⟨hk,Kk⟩,gG hj Kk b1 Kk⟩
 case p4=>exact⟨⟨hk,Kk⟩,fL _⟩
 case r2 =>
  rw[BF.wC _ hj hk hm b1,Int.toNat_natCast];dsimp only;rw[if_pos Kk]
def Dt (K:aP) (C:Addr):Sp:=fun vs H Q _=>∃k h a x y r1 r2,vs=[.int k,.int h,.ref a]∧(fR K H a [x,y] [r1,r2])∧((0≤k∧0≤h)∧BF.cS r1∧BF.cS r2)∧∀l H',H l=none→aI H H'→H' l=some (.lst (fh (NumNeutral.step NumCalls.start [[5,k,h],r1,r2]).2))→Q (.ref l) H'
theorem Du:aD ["kind","how","rows"] ["kind","how","rows"] (ay (top 156)):=bz
theorem EC (ak:Ev K mg C C2 C3):cw P w K mg base "answer_cmp" ["kind","how","rows"] 5 (Dt K C):=by
 have T:=ak.T;refine cQ (ak.df 99) Du Xe (Xg fun f bw A outer s H Q E hr k h a x y r1 r2 h=>?_);obtain⟨o1,⟨⟨hk,hh⟩,b1,b2⟩,q⟩:=h;refine⟨_,ah (aS (cy (PW.pt (dk (i0 (aQ (pf (iJ ak) hr (aa (pv 0) (aa (pv 2) (ae)))))) (dR (b8 eY (pv 1) (aG T.Ow rfl)))))) (aj (aq (dz (aa (aG T.gT rfl) (ae))))) (aB)) (aj (aq (dz (aa (aG T.Ji rfl) (aa (pf (Ju ak) hr (aa (pv 0) (aa (pv 1) (aa (pf (dr ak) hr (aa (et aZ (pv 2) (al)) (ae))) (aa (pf (dr ak) hr (aa (et aZ (pv 2) (al)) (ae))) (ae)))))) (ae)))))),⟨(!kJ k [r1,r2]||decide (1<h)),aR rfl rfl (gk rfl (o1) ?p1 (bg rfl (aK (fun h2=>?d1) (fun h2=>aE rfl rfl rfl rfl ?d2)))),aK (fun h1=>⟨(by show _≤sizeLine;decide),fun l1 dE=>q _ _ ((aI.refl _).free dE) ((ai dE)) (b4 (aL) ?r1)⟩) (fun h1=>aW rfl rfl rfl (iq rfl rfl ((o1)).sq rfl (bJ rfl ((o1.row 0 _ _ rfl rfl)) ?p2 (bT rfl rfl rfl ((o1)).sq rfl (bJ rfl ((o1.row 1 _ _ rfl rfl)) ?p3 (gk rfl ?p4 (by show 2≤sizeLine;decide) (fun l2 fo=>q _ _ ((aI.refl _).free fo) ((ai fo)) (b4 (aL) ?r2))))))))⟩⟩
 case p1=>exact⟨hk,by show 2≤3;decide⟩
 case d1=>exact⟨by rw[h2];rfl,rfl⟩
 case d2=>exact⟨by rw[nt h2];rfl,rfl⟩
 case r1 =>
  simp only[Bool.or_eq_true,fG,decide_eq_true_eq,j1,j3,kK] at h1;rw[BF.Ay _ hk hh b1 b2];dsimp only;rw[if_neg Kk];rfl
 all_goals simp only[bR,fG,dH,j1,j3,kK] at h1
 case p2=>exact⟨b1,mZ (k:=k) Kk⟩
 case p3=>exact⟨b2,mZ (k:=k) Kk⟩
 case p4=>exact⟨gG hk Kk b1 Kk,gG hk Kk b2 Kk,hh⟩
 case r2 =>
  rw[BF.Ay _ hk hh b1 b2];dsimp only;rw[if_pos Kk];rfl
def Ac (K:aP) (C:Addr):Sp:=fun vs H Q _=>∃k a x r1,vs=[.int k,.ref a]∧(fR K H a [x] [r1])∧(0≤k∧BF.cS r1)∧∀l H',H l=none→aI H H'→H' l=some (.lst (fh (NumNeutral.step NumCalls.start [[6,k],r1]).2))→Q (.ref l) H'
theorem Ad:aD ["kind","rows"] ["kind","rows"] (ay (top 157)):=bz
theorem Dv (ak:Ev K mg C C2 C3):cw P w K mg base "answer_text" ["kind","rows"] 9 (Ac K C):=by
 have T:=ak.T;refine cQ (ak.df 100) Ad qU (qV fun f bw A outer s H Q E hr k a x r1 h=>?_);obtain⟨o1,⟨hk,b1⟩,q⟩:=h;refine⟨_,ah (aS (i0 (aQ (pf (iJ ak) hr (aa (pv 0) (aa (pv 1) (ae)))))) (aj (aq (dz (aa (aG T.gT rfl) (ae))))) (aB)) (aj (aq (pf (uC ak) hr (aa (pf (UX ak) hr (aa (pv 0) (aa (pf (dr ak) hr (aa (et aZ (pv 1) (al)) (ae))) (ae)))) (ae))))),aR rfl rfl (gk rfl (o1) ?p1 (bg rfl (aK (fun h1=>⟨(by show _≤sizeLine;decide),fun l1 dE=>q _ _ ((aI.refl _).free dE) ((ai dE)) (b4 (aL) ?r1)⟩) (fun h1=>aR rfl rfl (iq rfl rfl ((o1)).sq rfl (bJ rfl ((o1.row 0 _ _ rfl rfl)) ?p2 (bG rfl ?p3 (fun a2 H2 s2 x2=>bJ rfl (x2) ?p4 (fun a3 H3 n3 s3 x3=>q _ _ ((s2).free n3) ((s2).trans s3) (b4 (x3) ?r2))))))))))⟩
 case p1=>exact⟨hk,by show 1≤3;decide⟩
 case r1 =>
  simp only[Bool.or_eq_true,fG,decide_eq_true_eq,j1,j3,kK] at h1;rw[BF.wD _ hk b1];dsimp only;rw[if_neg Kk];rfl
 all_goals simp only[bR,fG,dH,j1,j3,kK] at h1
 case p2=>exact⟨b1,mZ (k:=k) Kk⟩
 case p3=>exact⟨gG hk Kk b1 Kk,bZ (Dd (gG hk Kk b1 Kk)) Ke⟩
 case p4=>rw[aF];exact bZ (FI (gG hk Kk b1 Kk)) Ke
 case r2 =>
  rw[BF.wD _ hk b1,List.length_map];dsimp only;rw[if_pos Kk];show _=V.int 0::V.int _::fh (BF.yb _);unfold BF.yb;rw[List.length_map];show _=V.int 0::V.int _::List.map V.int (List.map _ _);rw[List.map_map];rfl
def yx (K:aP) (C:Addr):Sp:=fun vs H Q _=>∃k m b g a x r1,vs=[.int k,.int m,.int b,.int g,.ref a]∧(fR K H a [x] [r1])∧((0≤k∧0≤m∧0≤b∧0≤g)∧BF.cS r1)∧∀l H',H l=none→aI H H'→H' l=some (.lst (fh (NumNeutral.step NumCalls.start [[13,k,m,b,g],r1]).2))→Q (.ref l) H'
theorem yy:aD ["kind","mode","width","sign","rows"] ["kind","mode","width","sign","rows"] (ay (top 166)):=bz
theorem Ae (ak:Ev K mg C C2 C3):cw P w K mg base "answer_whole" ["kind","mode","width","sign","rows"] 6 (yx K C):=by
 have T:=ak.T;refine cQ (ak.df 109) yy Xe (Xg fun f bw A outer s H Q E hr k m b g a x r1 h=>?_);obtain⟨o1,⟨⟨hk,hm,hb,hg⟩,b1⟩,q⟩:=h;refine⟨_,ah (aS (cy (PW.pt (dk (i0 (aQ (pf (iJ ak) hr (aa (pv 0) (aa (pv 4) (ae)))))) (dk (b8 eY (pv 1) (aG T.g8 rfl)) (dk (b8 jx (pv 2) (al)) (dk (b8 eY (pv 2) (aG T.Lq rfl)) (dR (b8 eY (pv 3) (aG T.Lr rfl))))))))) (aj (aq (dz (aa (aG T.gT rfl) (ae))))) (aB)) (aj (aq (dz (aa (aG T.Ji rfl) (aa (pf (Eh ak) hr (aa (pv 0) (aa (pv 1) (aa (pv 2) (aa (iB bp (pv 3) (al)) (aa (pf (dr ak) hr (aa (et aZ (pv 4) (al)) (ae))) (ae))))))) (ae)))))),⟨(!kJ k [r1]||(decide (4<m)||(decide (b<1)||(decide (48<b)||decide (1<g))))),aR rfl rfl (gk rfl (o1) ?p1 (bg rfl (aK (fun h2=>?d1) (fun h2=>aE rfl rfl rfl rfl (aK (fun h3=>?d2) (fun h3=>aE rfl rfl rfl rfl (aK (fun h4=>?d3) (fun h4=>aE rfl rfl rfl rfl (aK (fun h5=>?d4) (fun h5=>aE rfl rfl rfl rfl ?d5)))))))))),aK (fun h1=>⟨(by show _≤sizeLine;decide),fun l1 dE=>q _ _ ((aI.refl _).free dE) ((ai dE)) (b4 (aL) ?r1)⟩) (fun h1=>ax rfl rfl rfl rfl (ck rfl rfl rfl (iq rfl rfl ((o1)).sq rfl (bJ rfl ((o1.row 0 _ _ rfl rfl)) ?p2 (j0 rfl ?p3 ⟨(by show 2≤sizeLine;decide),fun l2 fo=>q _ _ ((aI.refl _).free fo) ((ai fo)) (b4 (aL) ?r2)⟩)))))⟩⟩
 case p1=>exact⟨hk,by show 1≤3;decide⟩
 case d1=>exact⟨by rw[h2];rfl,rfl⟩
 case d2=>exact⟨by rw[nt h2,h3];rfl,rfl⟩
 case d3=>exact⟨by rw[nt h2,nt h3,h4];rfl,rfl⟩
 case d4=>exact⟨by rw[nt h2,nt h3,nt h4,h5];rfl,rfl⟩
 case d5=>exact⟨by rw[nt h2,nt h3,nt h4,nt h5];rfl,rfl⟩
 case r1 =>
  simp only[Bool.or_eq_true,fG,decide_eq_true_eq,j1,j3,kK] at h1;rw[BF.tw _ hk hm hb hg b1];dsimp only;rw[if_neg Kk];rfl
 all_goals simp only[bR,fG,dH,j1,j3,kK] at h1
 case p2=>exact⟨b1,mZ (k:=k) Kk⟩
 case p3=>exact⟨⟨hm,Kk⟩,gG hk Kk b1 Kk,Kk,Kk⟩
 case r2 =>
  rw[BF.tw _ hk hm hb hg b1];dsimp only;rw[if_pos Kk];rfl
def yz (K:aP) (C:Addr):Sp:=fun vs H Q _=>∃k m z,vs=[.int k,.int m,.int z]∧((0≤k∧0≤m)∧Sm 1000 z)∧∀l H',H l=none→aI H H'→H' l=some (.lst (fh (NumNeutral.step NumCalls.start [[14,k,m,z]]).2))→Q (.ref l) H'
theorem yA:aD ["kind","mode","z"] ["kind","mode","z"] (ay (top 167)):=bz
theorem Af (ak:Ev K mg C C2 C3):cw P w K mg base "answer_float" ["kind","mode","z"] 6 (yz K C):=by
 have T:=ak.T;refine cQ (ak.df 110) yA lY (lZ fun f bw A outer s H Q E hr k m z h=>?_);obtain⟨⟨⟨hk,hm⟩,hz⟩,q⟩:=h;refine⟨_,ah (aS (cy (PW.pt (dk (b8 eY (pv 0) (aG T.kU rfl)) (dR (b8 eY (pv 1) (aG T.g8 rfl)))))) (aj (aq (dz (aa (aG T.gT rfl) (ae))))) (aB)) (aj (aq (pf (ee ak) hr (aa (pv 0) (aa (pf (Ee ak) hr (aa (pv 0) (aa (pv 1) (aa (pv 2) (ae))))) (ae)))))),⟨(decide (3<k)||decide (4<m)),aE rfl rfl rfl rfl (aK (fun h2=>?d1) (fun h2=>aE rfl rfl rfl rfl ?d2)),aK (fun h1=>⟨(by show _≤sizeLine;decide),fun l1 dE=>q _ _ ((aI.refl _).free dE) ((ai dE)) (b4 (aL) ?r1)⟩) (fun h1=>ax rfl rfl rfl rfl (e7 rfl ?p1 (bG rfl ?p2 (fun a2 H2 n2 s2 x2=>q _ _ ((aI.refl _).free n2) (s2) (b4 (x2) ?r2)))))⟩⟩
 case d1=>exact⟨by rw[h2];rfl,rfl⟩
 case d2=>exact⟨by rw[nt h2];rfl,rfl⟩
 case r1 =>
  simp only[Bool.or_eq_true,fG,decide_eq_true_eq,j1,j3,kK] at h1;rw[BF.tx _ _ hk hm];dsimp only;rw[if_neg Kk];rfl
 all_goals simp only[bR,fG,dH,j1,j3,kK] at h1
 case p1=>exact⟨⟨hm,Kk⟩,⟨hk,Kk⟩,hz⟩
 case p2=>exact⟨⟨hk,Kk⟩,fL _⟩
 case r2 =>
  rw[BF.tx _ _ hk hm,Int.toNat_natCast];dsimp only;rw[if_pos Kk]
end
theorem aa4 {n c:Nat} (h2:2≤c) (h8:c≤8) (h:n%c=0) (hn:n≤1000):Wz 0 (n:Int) (c:Int) (n/c):=by
 have hs:Builtin.Range.rangeSize 0 (n:Int) (c:Int)=((n/c:Nat):Int):=by
  unfold Builtin.Range.rangeSize;rw[ao (show (c:Int)>0 by omega)];obtain rfl | rfl | rfl | rfl | rfl | rfl | rfl:c=2∨c=3∨c=4∨c=5∨c=6∨c=7∨c=8:=by omega
  all_goals split<;>omega
 refine⟨Kk,Kk,?_,hs⟩;have hd:n/c≤n:=J3 n c;unfold Builtin.Range.small;rw[hs];generalize n/c=qq at *;simp only[Builtin.Range.rangeFitsLong,b5,bR,dH,dF,show (c:Int)>0 by omega,aJ];omega
theorem rgc {k:Int} {n:Nat} (h:(n:Int)%BF.nb (BF.fm k)=0) (hn:n≤1000):Wz 0 (n:Int) (BF.nb (BF.fm k)) (n/(BF.nb (BF.fm k)).toNat):=by
 have JG:=BF.gA k;obtain⟨c,hc⟩:=aA (show 0≤BF.nb (BF.fm k) by omega);rw[hc] at h JG ⊢;rw[aN];exact aa4 Kk Kk Kk hn
theorem Sb {l:List Int} {n:Int} {i:Nat} (h:0≤n):gc (fh l) (some (0+(i:Nat)*n)) (some (0+(i:Nat)*n+n))=fh ((l.drop (i*n.toNat)).take n.toNat):=by
 obtain⟨N,rfl⟩:=aA h;have:=tO (fh l) (i*N) (i*N+N);rw[show i*N+N-i*N=N by omega,←oN,←oJ] at this;rw[aN,Int.zero_add];rw[cJ,eS] at this;exact this
def FK (k o m:Int) (l:List Int):Bool:=decide ((k≤3∧o≤4∧m≤4)∧(l.length:Int)%BF.nb (BF.fm k)=0∧(l.length:Int)≤64*BF.nb (BF.fm k))
theorem Ma {n:Nat} {l:List Int} (hb:BF.cS l):fh (BF.gx n l)=List.map (fun (c:Nat)=>V.int c) ((BF.gx n l).map Int.toNat):=by
 rw[ju];refine xH fun x hx=>?_;unfold BF.gx at hx;obtain⟨i,_,rfl⟩:=jy.mp hx;show V.int _=V.int _;rw[fC (BF.gS ((hb.drop _).take _)).1]
theorem yB {k:Int} {l:List Int} (hb:BF.cS l) (h:(l.length:Int)%BF.nb (BF.fm k)=0):∀x∈(BF.gx (BF.nb (BF.fm k)).toNat l).map Int.toNat,x<2*(BF.fm k).sign:=by
 intro x hx;obtain⟨y,hy,rfl⟩:=jy.mp hx;unfold BF.gx at hy;obtain⟨i,hi,rfl⟩:=jy.mp hy;have hi:=oO.mp hi;have nb2:=BF.gA k;refine BF.pq k ((hb.drop _).take _) ?_;rw[fN,ez];have e:((BF.nb (BF.fm k)).toNat:Int)=BF.nb (BF.fm k):=by omega
 have h1:(i+1)*(BF.nb (BF.fm k)).toNat≤l.length:=bZ (vZ _ hi) (Nat.div_mul_le_self _ _);rw[v7,Nat.one_mul] at h1;omega
section
variable {P:Program} {w:World} {K:aP} {mg:Str→Option Value} {base:Heap} {C C2 C3:Addr}
def xA (K:aP) (C:Addr):Sp:=fun vs H Q _=>∃k o m a l,vs=[.int k,.int o,.int m,.ref a]∧(bU K H a (fh l))∧((0≤k∧0≤o∧0≤m)∧l.length≤20000)∧Q (.bl (FK k o m l)) H
theorem xB:aD ["kind","order","mode","row"] ["kind","order","mode","row"] (ay (top 162)):=bz
theorem pK (ak:Ev K mg C C2 C3):cw P w K mg base "can_be_summed" ["kind","order","mode","row"] 2 (xA K C):=by
 have T:=ak.T;refine bc (ak.df 105) xB B5 (B6 fun f bw A outer s H Q E hr k o m a l h=>?_);obtain⟨o1,⟨⟨hk,ho,hm⟩,hl⟩,q⟩:=h;refine⟨_,ah (aS (cy (PW.pt (dk (b8 eY (pv 0) (aG T.kU rfl)) (dk (b8 eY (pv 1) (aG T.Jg rfl)) (dR (b8 eY (pv 2) (aG T.g8 rfl))))))) (aj (aq (jL))) (aB)) (aj (aq (cZ (lP (iB bp (aH jG (bW cx rfl T.iu PySem.boot_len (aa (pv 3) (ae))) (pf (jE ak) hr (aa (pv 0) (ae)))) (al)) (jj (iB A0 (bW cx rfl T.iu PySem.boot_len (aa (pv 3) (ae))) (aH cK (aG T.D7 rfl) (pf (jE ak) hr (aa (pv 0) (ae)))))))))),⟨(decide (3<k)||(decide (4<o)||decide (4<m))),aE rfl rfl rfl rfl (aK (fun h2=>?d1) (fun h2=>aE rfl rfl rfl rfl (aK (fun h3=>?d2) (fun h3=>aE rfl rfl rfl rfl ?d3)))),aK (fun h1=>⟨aI.refl _,?r1⟩) (fun h1=>⟨.bl (decide (((fh l).length:Int)%BF.nb (BF.fm k)=0)&&decide (((fh l).length:Int)≤64*BF.nb (BF.fm k))),aE rfl rfl (.inl (o1)) rfl (eH rfl ?p1 (bJ rfl rfl ?c1 (ck rfl rfl rfl (aK (fun h4=>aE rfl rfl (.inl (o1)) rfl (eH rfl ?p2 (bJ rfl rfl ?c2 (bG rfl rfl ?d4)))) (fun h4=>?d5))))),⟨aI.refl _,?r2⟩⟩)⟩⟩
 case d1=>exact⟨by rw[h2];rfl,rfl⟩
 case d2=>exact⟨by rw[nt h2,h3];rfl,rfl⟩
 case d3=>exact⟨by rw[nt h2,nt h3];rfl,rfl⟩
 case r1 =>
  simp only[bR,fG,dH,j1,j3,kK] at h1;exact wI q (by unfold FK;rw[bS Kk])
 all_goals simp only[bR,fG,dH,j1,j3,kK] at h1
 all_goals have JG:=BF.gA k
 case p1=>exact⟨hk,Kk⟩
 case c1=>show (0:Int)<BF.nb (BF.fm k);omega
 case p2=>exact⟨hk,Kk⟩
 case c2=>exact⟨b6 Ke Ke,b6 Kk Ke⟩
 case d4=>exact⟨by rw[h4];rfl,rfl⟩
 case d5=>exact⟨by rw[nt h4];rfl,rfl⟩
 case r2 =>
  refine wI q ?_;unfold FK;rw[aF,←Bool.decide_and];exact tP.mpr ⟨fun z=>⟨Kk,z⟩,fun z=>z.2⟩
def vA (K:aP) (C:Addr):Sp:=fun vs H Q _=>∃k a l,vs=[.int k,.ref a]∧(bU K H a (fh l))∧(VK k∧BF.cS l∧(l.length:Int)%BF.nb (BF.fm k)=0∧l.length≤1000)∧∀x H',aI H H'→H' x=some (.lst (List.map (fun (c:Nat)=>V.int c) ((BF.gx (BF.nb (BF.fm k)).toNat l).map Int.toNat)))→Q (.ref x) H'
theorem iK:aD ["kind","row","step","start"] ["kind","row"] (ay (top 163)):=bz
theorem kG (ak:Ev K mg C C2 C3):cw P w K mg base "numbers_in_row" ["kind","row"] 2 (vA K C):=by
 have T:=ak.T;refine cQ (ak.df 106) iK lY (lZ fun f bw A outer s H Q E hr k a l h=>?_);obtain⟨o1,⟨hk,hb,QF,hl⟩,q⟩:=h;refine⟨_,ah (sv 2 iK.nd (pf (jE ak) hr (aa (pv 0) (ae)))) (aj (aq (uP rfl iK.nd (KD rfl T.wN (aa (al) (aa (bW cx rfl T.iu PySem.boot_len (aa (pv 1) (ae))) (aa (pv 2) (ae))))) (own:=[("start",3)]) (jl rfl) (fun _ _ _ _ _=>eM (i:=3) iK.nd rfl (Or.inl rfl)) (fun _ _ _ _ _=>kh) (fun _ _ _ _ _=>pf (dr ak) hr (aa (eW (OZ (K:=K) rfl) (pv 1) (dT (pv 3)) (dT (aH bX (pv 3) (pv 2)))) (ae)))))),cP rfl rfl ?p1 (aE rfl rfl (.inl (o1)) rfl (gK rfl (rgc (by rw[aF];exact QF) (by rw[aF];exact hl)) (fun D1 yo=>?k1)))⟩
 case p1=>exact hk
 case k1 =>
  have JG:=BF.gA k;refine mf ((fh l).length/(BF.nb (BF.fm k)).toNat) (by have:=J3 (fh l).length (BF.nb (BF.fm k)).toNat;rw[aF] at *;unfold sizeLine;omega) yo (fun i v _=>v=.int (BF.cj ((l.drop (i*(BF.nb (BF.fm k)).toNat)).take (BF.nb (BF.fm k)).toNat))) (fun _ _ _ _ _ e=>e) (fun _ _ _ _ _ _ e=>e) ?_ ?_
  ·intro i Hi Kx hi si hK;refine⟨hi,?_⟩;rintro x1 H2 ⟨rfl,rfl⟩;refine⟨rfl,ax rfl rfl rfl rfl (aE rfl rfl rfl rfl (bG rfl ((si).seq (o1)) (fun l2 fo=>bJ rfl (bU.of ((b4 aL (Sb (by have:=BF.gA k;omega))))) ?p2 ?e1)))⟩
   case p2=>exact⟨(hb.drop _).take _,by rw[fN];omega⟩
   case e1=>exact hK _ _ (by first | exact ai (by assumption) | exact aI.refl _) rfl
  ·intro H2 acc mX xk0 hlen hv;have sj:H2 D1=some (.lst (List.map (fun (c:Nat)=>V.int c) ((BF.gx (BF.nb (BF.fm k)).toNat l).map Int.toNat))):=by
    rw[←Ma hb,xk0];congr 2;unfold BF.gx;rw[aF] at hlen;exact MW hlen fun i v e=>hv i v e
   refine⟨bB _,?_⟩;refine q _ _ (mX) (b4 (sj) ?r1)
   case r1=>rfl
end
theorem Nb {K:aP} {H:Hp} {a l x y:Addr} {r1 r2:List Int} (o:fR K H a [x,y] [r1,r2]) (h:H l=none):fR K (upd H l (.lst (gc ([x,y].map V.ref) none (some 1)))) l [x] [r1]:=by
 refine⟨bU.of (show upd H l (.lst (gc ([x,y].map V.ref) none (some 1))) l=some (.lst ([x].map V.ref)) from aL),rfl,fun i z r e1 e2=>?_⟩
 match i with
 | 0=>exact(ai h).seq (o.row 0 _ _ e1 e2)
 | i+1=>simp at e1
theorem JT {k:Int} {l:List Int} (h:(l.length:Int)≤64*BF.nb (BF.fm k)):l.length/(BF.nb (BF.fm k)).toNat≤64:=by
 have JG:=BF.gA k;obtain⟨c,hc⟩:=aA (show 0≤BF.nb (BF.fm k) by omega);rw[hc] at h ⊢;rw[aN];exact Nat.div_le_of_le_mul Kk
theorem U4 {k n:Int} {r1 r2:List Int}:kJ k (if n=5 then [r1,r2] else [r1])=true↔k≤3∧(r1.length:Int)=BF.nb (BF.fm k)∧(n=5→(r2.length:Int)=BF.nb (BF.fm k)):=by
 split
 ·next h=>rw[j3];simp[h]
 ·next h=>rw[j1];simp[h]
section
variable {P:Program} {w:World} {K:aP} {mg:Str→Option Value} {base:Heap} {C C2 C3:Addr}
def Dx (K:aP) (C:Addr):Sp:=fun vs H Q _=>∃k m a x y z r1 r2 r3,vs=[.int k,.int m,.ref a]∧(fR K H a [x,y,z] [r1,r2,r3])∧((0≤k∧0≤m)∧BF.cS r1∧BF.cS r2∧BF.cS r3)∧∀l H',H l=none→aI H H'→H' l=some (.lst (fh (NumNeutral.step NumCalls.start [[1,k,m],r1,r2,r3]).2))→Q (.ref l) H'
theorem m4:aD ["kind","mode","rows","bits","row"] ["kind","mode","rows"] (ay (top 152)):=bz
theorem ED (ak:Ev K mg C C2 C3):cw P w K mg base "answer_fma" ["kind","mode","rows"] 6 (Dx K C):=by
 have T:=ak.T;refine cQ (ak.df 95) m4 xl9 (el9 fun f bw A outer s H Q E hr k m a x y z r1 r2 r3 h=>?_);obtain⟨o1,⟨⟨hk,hm⟩,b1,b2,b3⟩,q⟩:=h;refine⟨_,ah (aS (cy (PW.pt (dk (i0 (aQ (pf (iJ ak) hr (aa (pv 0) (aa (pv 2) (ae)))))) (dR (b8 eY (pv 1) (aG T.g8 rfl)))))) (aj (aq (dz (aa (aG T.gT rfl) (ae))))) (aB)) (ah (EY (i:=3) rfl m4.nd rfl rfl (Ib rfl rfl rfl rfl) (oQ (pv 2)) (own:=[("row",4)]) (jl rfl) (fun _ _ _ _ _=>eM (i:=4) m4.nd rfl (Or.inl rfl)) (fun _ _ _ _ _=>kh) (fun _ _ _ _ _=>pf (dr ak) hr (aa (pv 4) (ae)))) (aj (aq (pf (ee ak) hr (aa (pv 0) (aa (pf (rZ ak) hr (aa (pv 0) (aa (pv 1) (aa (et aZ (pv 3) (al)) (aa (et aZ (pv 3) (al)) (aa (et aZ (pv 3) (al)) (ae))))))) (ae))))))),⟨(!kJ k [r1,r2,r3]||decide (4<m)),aR rfl rfl (gk rfl (o1) ?p1 (bg rfl (aK (fun h2=>?d1) (fun h2=>aE rfl rfl rfl rfl ?d2)))),aK (fun h1=>⟨(by show _≤sizeLine;decide),fun l1 dE=>q _ _ ((aI.refl _).free dE) ((ai dE)) (b4 (aL) ?r1)⟩) (fun h1=>cP rfl rfl ⟨_,((o1)).sq⟩ (fun D2 hD2=>?k1))⟩⟩
 case p1=>exact⟨hk,by show 3≤3;decide⟩
 case d1=>exact⟨by rw[h2];rfl,rfl⟩
 case d2=>exact⟨by rw[nt h2];rfl,rfl⟩
 case r1 =>
  simp only[Bool.or_eq_true,fG,decide_eq_true_eq,j1,j3,kK] at h1;rw[BF.Ax _ hk hm b1 b2 b3];dsimp only;rw[if_neg Kk];rfl
 all_goals simp only[bR,fG,dH,j1,j3,kK] at h1
 case k1 =>
  have hr8:∀r∈[r1,r2,r3],BF.cS r∧r.length≤8:=by
   intro r hr;simp only[cO,List.not_mem_nil,or_false] at hr;rcases hr with rfl | rfl | rfl
   ·exact⟨b1,mZ (k:=k) Kk⟩
   ·exact⟨b2,mZ (k:=k) Kk⟩
   ·exact⟨b3,mZ (k:=k) Kk⟩
  refine mf 3 (by unfold sizeLine;omega) (by assumption) (fun i v _=>∃r,[r1,r2,r3][i]?=some r∧v=.int (BF.cj r)) (fun _ _ _ _ _ e=>e) (fun _ _ _ _ _ _ e=>e) ?_ ?_
  ·intro i Hi Kx hi si hK;have xa:[x,y,z][i]?=some ([x,y,z][i]'hi):=bI hi;have xb:[r1,r2,r3][i]?=some ([r1,r2,r3][i]'hi):=bI hi;refine⟨⟨_,_,si.seq o1.sq,by rw[aT,xa];rfl⟩,?_⟩;rintro v H2 ⟨rfl,hv⟩;have ex:=hv _ (si.seq o1.sq);rw[aT,xa] at ex;have xr:=o1.row i _ _ xa xb;have h8:=hr8 _ (fT hi);generalize [x,y,z][i]'hi=X at *;generalize [r1,r2,r3][i]'hi=r at *;obtain rfl:V.ref X=v:=bM ex;refine⟨rfl,eK rfl rfl ((si).seq (xr)) ?p2 ?e1⟩
   case p2=>exact h8
   case e1=>exact hK _ _ (aI.refl _) ⟨r,xb,rfl⟩
  ·intro H2 acc mX ha hl hv;have e:acc=fh [BF.cj r1,BF.cj r2,BF.cj r3]:=by
    match acc,hl with
    | [v1,v2,v3],_ =>
     obtain⟨t1,e1,rfl⟩:=hv 0 v1 rfl;obtain⟨t2,e2,rfl⟩:=hv 1 v2 rfl;obtain⟨t3,e3,rfl⟩:=hv 2 v3 rfl;cases e1;cases e2;cases e3;rfl
   subst e;have sj:=ha;refine⟨⟨_,mX.seq o1.sq,by simp⟩,?_⟩;refine ax rfl rfl rfl rfl (iq rfl rfl (bU.of (sj)) rfl (bT rfl rfl rfl (bU.of (sj)) rfl (bT rfl rfl rfl (bU.of (sj)) rfl (j0 rfl ?p3 (bG rfl ?p4 (fun a3 H3 n3 s3 x3=>q _ _ ((mX).free n3) ((mX).trans s3) (b4 (x3) ?r2)))))))
   case p3=>exact⟨⟨hm,Kk⟩,gG hk Kk b1 Kk,gG hk Kk b2 Kk,gG hk Kk b3 Kk⟩
   case p4=>exact⟨⟨hk,Kk⟩,fL _⟩
   case r2 =>
    rw[BF.Ax _ hk hm b1 b2 b3,Int.toNat_natCast];dsimp only;rw[if_pos Kk]
def EE (K:aP) (C:Addr):Sp:=fun vs H Q _=>∃k n m a x y r1 r2,vs=[.int k,.int n,.int m,.ref a]∧(fR K H a [x,y] [r1,r2])∧((0≤k∧0≤n∧0≤m)∧BF.cS r1∧BF.cS r2)∧∀l H',H l=none→aI H H'→H' l=some (.lst (fh (NumNeutral.step NumCalls.start [[4,k,n,m],r1,r2]).2))→Q (.ref l) H'
theorem oF:aD ["kind","number","mode","rows","looked_at","b"] ["kind","number","mode","rows"] (ay (top 155)):=bz
theorem G9 (ak:Ev K mg C C2 C3):cw P w K mg base "answer_fn" ["kind","number","mode","rows"] 11 (EE K C):=by
 have T:=ak.T;refine cQ (ak.df 98) oF Xf (Xh fun f bw A outer s H Q E hr k n m a x y r1 r2 h=>?_);obtain⟨o1,⟨⟨hk,hn,hm⟩,b1,b2⟩,q⟩:=h;refine⟨_,ah (sv 4 oF.nd (wJ (b9 (b8 bp (pv 1) (aG T.Q6 rfl)) (pv 3) (eW fX (pv 3) (ja) (dT (al)))))) (ah (aS (cy (PW.pt (dk (i0 (aQ (pf (iJ ak) hr (aa (pv 0) (aa (pv 4) (ae)))))) (dk (b8 eY (pv 1) (aG T.Cd rfl)) (dR (b8 eY (pv 2) (aG T.g8 rfl))))))) (aj (aq (dz (aa (aG T.gT rfl) (ae))))) (aB)) (ah (sv 5 oF.nd (cZ (b9 (b8 bp (pv 1) (aG T.Q6 rfl)) (pf (dr ak) hr (aa (et aZ (pv 3) (al)) (ae))) (al)))) (aj (aq (pf (ee ak) hr (aa (pv 0) (aa (pf (JE ak) hr (aa (pv 0) (aa (pv 1) (aa (pv 2) (aa (pf (dr ak) hr (aa (et aZ (pv 3) (al)) (ae))) (aa (pv 5) (ae))))))) (ae)))))))),⟨(fun l H'=>aI _ H'∧fR K H' l (if n=5 then [x,y] else [x]) (if n=5 then [r1,r2] else [r1])),aE rfl rfl rfl rfl (aK (fun h1=>bg rfl ⟨_,rfl,aI.refl _,?d1⟩) (fun h1=>br rfl rfl rfl ((o1)).sq (fun l1 dE=>⟨_,rfl,(ai dE),?d2⟩))),fun l2 M2 ⟨m2,y2⟩=>⟨(!kJ k (if n=5 then [r1,r2] else [r1])||(decide (5<n)||decide (4<m))),aR rfl rfl (gk rfl (y2) ?p1 (bg rfl (aK (fun h3=>?d3) (fun h3=>aE rfl rfl rfl rfl (aK (fun h4=>?d4) (fun h4=>aE rfl rfl rfl rfl ?d5)))))),aK (fun h2=>⟨(by show _≤sizeLine;decide),fun l3 iZ=>q _ _ ((m2).free iZ) ((m2).trans (ai iZ)) (b4 (aL) ?r1)⟩) (fun h2=>⟨.int (if n=5 then BF.cj r2 else 0),aE rfl rfl rfl rfl (aK (fun h5=>bT rfl rfl rfl ((((o1).same m2)).sq) rfl (bJ rfl ((m2).seq ((o1.row 1 _ _ rfl rfl))) ?p2 ?d6)) (fun h5=>?d7)),ax rfl rfl rfl rfl (bT rfl rfl rfl ((((o1).same m2)).sq) rfl (bJ rfl ((m2).seq ((o1.row 0 _ _ rfl rfl))) ?p3 (bg rfl (j0 rfl ?p4 (bG rfl ?p5 (fun a4 H4 n4 s4 x4=>q _ _ ((m2).free n4) ((m2).trans s4) (b4 (x4) ?r2)))))))⟩)⟩⟩⟩
 case d1=>rw[ao (dt h1),ao (dt h1)];exact o1
 case d2=>rw[ag (df h1),ag (df h1)];exact Nb o1 (by assumption)
 case p1=>exact⟨hk,by split<;>exact yJ rfl⟩
 case d3=>exact⟨by rw[h3];rfl,rfl⟩
 case d4=>exact⟨by rw[nt h3,h4];rfl,rfl⟩
 case d5=>exact⟨by rw[nt h3,nt h4];rfl,rfl⟩
 all_goals simp only[bR,fG,dH,U4] at h2
 case r1 =>
  rw[BF.Gu _ hk hn hm b1 b2];dsimp only;rw[if_neg Kk];rfl
 case p2=>exact⟨b2,mZ (k:=k) (by have:=dt h5;omega)⟩
 case d6=>exact⟨by rw[ao (dt h5)],rfl⟩
 case d7=>exact⟨by rw[ag (df h5)],rfl⟩
 case p3=>exact⟨b1,mZ (k:=k) Kk⟩
 case p4 =>
  refine⟨⟨hm,Kk⟩,gG hk Kk b1 Kk,?_,hn,Kk⟩;split
  ·next h=>exact gG hk Kk b2 Kk
  ·exact⟨⟨hk,Kk⟩,Ke,by have:0<BF.aU (BF.fm k):=BF.aX _;omega⟩
 case p5=>exact⟨⟨hk,Kk⟩,fL _⟩
 case r2 =>
  rw[BF.Gu _ hk hn hm b1 b2,Int.toNat_natCast];dsimp only;rw[if_pos (show (k≤3∧(r1.length:Int)=BF.nb (BF.fm k)∧(n=5→(r2.length:Int)=BF.nb (BF.fm k)))∧n≤5∧m≤4 by omega)];by_cases h:n=5
  ·rw[ao h]
  ·rw[ag h];unfold BF.IM;rw[ag h,ag h]
def Dy (K:aP) (C:Addr):Sp:=fun vs H Q _=>∃k o m a x r1,vs=[.int k,.int o,.int m,.ref a]∧(fR K H a [x] [r1])∧((0≤k∧0≤o∧0≤m)∧BF.cS r1∧r1.length≤20000)∧∀l H',H l=none→aI H H'→H' l=some (.lst (fh (NumNeutral.step NumCalls.start [[11,k,o,m],r1]).2))→Q (.ref l) H'
theorem Dz:aD ["kind","order","mode","rows"] ["kind","order","mode","rows"] (ay (top 164)):=bz
theorem EF (ak:Ev K mg C C2 C3):cw P w K mg base "answer_sum" ["kind","order","mode","rows"] 9 (Dy K C):=by
 have T:=ak.T;refine cQ (ak.df 107) Dz QS (QT fun f bw A outer s H Q E hr k o m a x r1 h=>?_);obtain⟨o1,⟨⟨hk,ho,hm⟩,b1,hl⟩,q⟩:=h;refine⟨_,ah (aS (i0 (aQ (pf (pK ak) hr (aa (pv 0) (aa (pv 1) (aa (pv 2) (aa (et aZ (pv 3) (al)) (ae)))))))) (aj (aq (dz (aa (aG T.gT rfl) (ae))))) (aB)) (aj (aq (pf (ee ak) hr (aa (pv 0) (aa (pf (xk ak) hr (aa (pv 0) (aa (pv 1) (aa (pv 2) (aa (pf (kG ak) hr (aa (pv 0) (aa (et aZ (pv 3) (al)) (ae)))) (ae)))))) (ae)))))),ax rfl rfl rfl rfl (iq rfl rfl ((o1)).sq rfl (j0 rfl ((o1.row 0 _ _ rfl rfl)) ⟨?p1,bg rfl (aK (fun h1=>⟨(by show _≤sizeLine;decide),fun l1 dE=>q _ _ ((aI.refl _).free dE) ((ai dE)) (b4 (aL) ?r1)⟩) (fun h1=>ax rfl rfl rfl rfl (aR rfl rfl (iq rfl rfl ((o1)).sq rfl (jt rfl ((o1.row 0 _ _ rfl rfl)) ?p2 (fun a2 H2 s2 x2=>j0 rfl (bU.of (x2)) ⟨?p3,bG rfl ?p4 (fun a3 H3 n3 s3 x3=>q _ _ ((s2).free n3) ((s2).trans s3) (b4 (x3) ?r2))⟩))))))⟩))⟩
 case p1=>exact⟨⟨hk,ho,hm⟩,hl⟩
 all_goals unfold FK at h1
 all_goals simp only[fG,dH] at h1
 case r1 =>
  rw[BF.AA _ hk ho hm b1];dsimp only;rw[if_neg Kk];rfl
 all_goals have JG:=BF.gA k
 case p2=>exact⟨⟨hk,Kk⟩,b1,Kk,Kk⟩
 case p3 =>
  refine⟨⟨hm,Kk⟩,⟨hk,Kk⟩,Kk,yB b1 Kk,?_⟩;rw[aF,BF.chunk_len];exact JT Kk
 case p4=>exact⟨⟨hk,Kk⟩,fL _⟩
 case r2 =>
  rw[BF.AA _ hk ho hm b1,Int.toNat_natCast];dsimp only;rw[if_pos Kk]
def DA (K:aP) (C:Addr):Sp:=fun vs H Q _=>∃k o m a x y r1 r2,vs=[.int k,.int o,.int m,.ref a]∧(fR K H a [x,y] [r1,r2])∧((0≤k∧0≤o∧0≤m)∧(BF.cS r1∧BF.cS r2)∧r1.length≤20000)∧∀l H',H l=none→aI H H'→H' l=some (.lst (fh (NumNeutral.step NumCalls.start [[12,k,o,m],r1,r2]).2))→Q (.ref l) H'
theorem m7:aD ["kind","order","mode","rows","numbers","others"] ["kind","order","mode","rows"] (ay (top 165)):=bz
theorem EG (ak:Ev K mg C C2 C3):cw P w K mg base "answer_dot" ["kind","order","mode","rows"] 9 (DA K C):=by
 have T:=ak.T;refine cQ (ak.df 108) m7 Xf (Xh fun f bw A outer s H Q E hr k o m a x y r1 r2 h=>?_);obtain⟨o1,⟨⟨hk,ho,hm⟩,⟨b1,b2⟩,hl⟩,q⟩:=h;refine⟨_,ah (aS (cy (PW.pt (dk (i0 (aQ (pf (pK ak) hr (aa (pv 0) (aa (pv 1) (aa (pv 2) (aa (et aZ (pv 3) (al)) (ae)))))))) (dR (b8 GA (bW cx rfl T.iu PySem.boot_len (aa (et aZ (pv 3) (al)) (ae))) (bW cx rfl T.iu PySem.boot_len (aa (et aZ (pv 3) (al)) (ae)))))))) (aj (aq (dz (aa (aG T.gT rfl) (ae))))) (aB)) (ah (sv 4 m7.nd (pf (kG ak) hr (aa (pv 0) (aa (et aZ (pv 3) (al)) (ae))))) (ah (sv 5 m7.nd (pf (kG ak) hr (aa (pv 0) (aa (et aZ (pv 3) (al)) (ae))))) (aj (aq (pf (ee ak) hr (aa (pv 0) (aa (pf (vt ak) hr (aa (pv 0) (aa (pv 1) (aa (pv 2) (aa (pv 4) (aa (pv 5) (ae))))))) (ae)))))))),⟨(!FK k o m r1||!decide (((fh r1).length:Int)=((fh r2).length:Int))),ax rfl rfl rfl rfl (iq rfl rfl ((o1)).sq rfl (j0 rfl ((o1.row 0 _ _ rfl rfl)) ⟨?p1,bg rfl (aK (fun h2=>?d1) (fun h2=>bT rfl rfl rfl ((o1)).sq rfl (ck rfl (.inl ((o1.row 0 _ _ rfl rfl))) rfl (iq rfl rfl ((o1)).sq rfl (bG rfl (.inl ((o1.row 1 _ _ rfl rfl))) (ck rfl rfl rfl ?d2))))))⟩)),aK (fun h1=>⟨(by show _≤sizeLine;decide),fun l1 dE=>q _ _ ((aI.refl _).free dE) ((ai dE)) (b4 (aL) ?r1)⟩) (fun h1=>aR rfl rfl (iq rfl rfl ((o1)).sq rfl (jt rfl ((o1.row 0 _ _ rfl rfl)) ?p2 (fun a2 H2 s2 x2=>aR rfl rfl (iq rfl rfl ((((o1).same s2)).sq) rfl (jt rfl ((s2).seq ((o1.row 1 _ _ rfl rfl))) ?p3 (fun a3 H3 s3 x3=>ax rfl rfl rfl rfl (aR rfl rfl ⟨_,_,_,_,_,_,_,rfl,(bU.of ((s3 _ _ (x2)))),(bU.of (x3)),?p4,bG rfl ?p5 (fun a4 H4 n4 s4 x4=>q _ _ (((s2).trans s3).free n4) (((s2).trans s3).trans s4) (b4 (x4) ?r2))⟩))))))))⟩⟩
 case p1=>exact⟨⟨hk,ho,hm⟩,hl⟩
 case d1=>exact⟨by rw[h2];rfl,rfl⟩
 case d2=>exact⟨by rw[nt h2];rfl,rfl⟩
 all_goals unfold FK at h1
 all_goals simp only[bR,fG,dH,aF] at h1
 case r1 =>
  rw[BF.AD _ hk ho hm b1 b2];dsimp only;rw[if_neg Kk];rfl
 all_goals have JG:=BF.gA k
 case p2=>exact⟨⟨hk,Kk⟩,b1,Kk,Kk⟩
 case p3=>exact⟨⟨hk,Kk⟩,b2,by rw[←show r1.length=r2.length by omega];omega,Kk⟩
 case p4 =>
  refine⟨⟨hm,Kk⟩,⟨hk,Kk⟩,Kk,yB b1 Kk,yB b2 (by rw[←show r1.length=r2.length by omega];omega),?_,?_⟩
  ·rw[aF,BF.chunk_len];exact JT Kk
  ·rw[aF,BF.chunk_len,aF,BF.chunk_len,show r2.length=r1.length by omega]
 case p5=>exact⟨⟨hk,Kk⟩,fL _⟩
 case r2 =>
  rw[BF.AD _ hk ho hm b1 b2,Int.toNat_natCast];dsimp only;rw[if_pos Kk]
end
theorem gm.same {C C2:Addr} {H H':Hp} {b:Addr} {u:BF.Ex} (h:gm C C2 H b u) (s:aI H H'):gm C C2 H' b u:=by
 obtain⟨dx,a,e,x⟩:=h;exact⟨dx,a,s _ _ e,x.same s⟩
theorem gm.some {C C2:Addr} {H:Hp} {b:Addr} {u:BF.Ex} (h:gm C C2 H b u):∃o,H b=Option.some o:=let ⟨_,_,e,_⟩:=h;⟨_,e⟩
theorem SB.free {b l:Addr} {H H1:Hp} (sb:SB b H H1) (hb:∃o,H1 b=some o) (hl:H1 l=none):H l=none:=by
 cases e:H l with
 | none=>rfl
 | some o =>
  by_cases c:l=b
  ·subst c;obtain⟨o1,e1⟩:=hb;rw[hl] at e1;cases e1
  ·have:=sb l o e c;rw[hl] at this;cases this
theorem SB.trans {b:Addr} {H H1 H2:Hp} (sb:SB b H H1) (s:aI H1 H2):SB b H H2:=fun c o e n=>s c o (sb c o e n)
theorem Nc {b:Addr} {H H1 H2:Hp} (s:aI H H1) (sb:SB b H1 H2):SB b H H2:=fun c o e n=>sb c o (s c o e) n
theorem oo {b:Addr} {H H1:Hp} (s:aI H H1):SB b H H1:=fun c o e _=>s c o e
theorem O0 {r:List Int} (h:BF.cS r):fh r=ed (NumNeutral.bytes r):=by
 have:=a7 fh (BF.wA h);rw[←this];show List.map V.int (List.map _ _)=_;rw[ju];rfl
theorem Sd {k:Int} {r1 r2:List Int}:kJ k (if r2=[] then [r1] else [r1,r2])=true↔k≤3∧(r1.length:Int)=BF.nb (BF.fm k)∧(r2≠[]→(r2.length:Int)=BF.nb (BF.fm k)):=by
 split
 ·next h=>rw[j1];simp[h]
 ·next h=>rw[j3];simp[h]
theorem get_eq {k m:Int} {st:Lw.LongSum} {u:BF.Ex} (rl:BF.Rel st u):(if BF.bC u=true then BF.ws (BF.fm k) (BF.md m).isDown 0 else ((BF.fm k).ofKind (BF.md m) u.kind:Nat))=((st.get (BF.fm k) (BF.md m):Nat):Int):=by
 rw[BF.IJ _ _ rl];split
 ·exact(BF.o8 _ _).symm
 ·rfl
theorem Ha {k:Int} {m:Lw.Mode} {b:Lw.Bytes} {z:Int} (h:BF.jo (BF.fm k) m b=some z):0≤z:=by
 rw[←BF.uv (BF.fm k) (BF.dm k)] at h;cases e:Lw.readFloat (BF.fm k) m b with
 | none=>rw[e] at h;cases h
 | some x =>
  rw[e] at h;injection h with h
  rw[←h];exact fL _
theorem AB.mono {n m:Nat} {u:BF.Ex} (h:AB n u) (hm:n≤m):AB m u:={ h with sz:=tS h.sz (i6 (iX.mpr hm) (bo (BF.aX _))) }
theorem O1 (n:Nat):AB n (BF.gJ 0):=tL.mono (iC _)
section
variable {X:Cx} {C C2:Addr} {k:Nat} {p pos apos:Pos} {e o:Expr} {es:List Expr} {t:TA} {ta:TE}
def U6 (C C2:Addr) (ta:TE) (t:TA):TE:=fun σ H Q=>ta σ H fun x H1=>∃b u,x=.ref b∧gm C C2 H1 b u∧t σ H1 fun vs H2=>∃a v,vs=[.ref a]∧gm C C2 H2 b u∧eR C H2 a v∧(EB u∧EB v)∧∀H':Hp,gm C C2 H' b (BF.cG .near u v)→SB b H2 H'→Q .fV H'
def U7 (C C2:Addr) (ta:TE) (t:TA):TE:=fun σ H Q=>ta σ H fun x H1=>∃b u,x=.ref b∧gm C C2 H1 b u∧t σ H1 fun vs H2=>∃k m,vs=[.int k,.int m]∧gm C C2 H2 b u∧(VK k∧VM m∧PB u)∧Q (.int (if BF.bC u=true then BF.ws (BF.fm k) (BF.md m).isDown 0 else ((BF.fm k).ofKind (BF.md m) u.kind:Nat))) H2
def Se (C C2:Addr) (ta:TE):TE:=fun σ H Q=>ta σ H fun x H1=>∃b u,x=.ref b∧gm C C2 H1 b u∧∀H':Hp,gm C C2 H' b (BF.gJ 0)→SB b H1 H'→Q .fV H'
theorem FL (h:vn X.prog X.w X.K X.mg X.base C C2) (hr:fk k X.A) (hk:5≤k) (he:PE X o ta) (ha:PA X (e::es) t)
  (qQ:autoParam (starEach (e::es) X.env=(false,eval e X.env)::starEach es X.env) cW) (gH:autoParam ((backTo pos (starEach es X.env)).any (·.1)=false) cW) {pl:Sem Bool}
  (ht:autoParam (eval (.Call (.Attribute o "take" apos) (e::es) [] pos) X.env=(do
   let ov ←eval o X.env
   standAt apos.atName
   let (f,first) ←holding [ov] (getMethod ov "take" pl)
   callWith pos f first (backTo pos (starEach (e::es) X.env)) (backToKw pos (keywordEach [] X.env)))) cW):PE X (.Call (.Attribute o "take" apos) (e::es) [] pos) (U6 C C2 ta t):=by
 obtain⟨f,fd,hm,F,hb⟩:=h.take;intro pins s σ H Q I hw;refine PySem.W.methodCall_KW (pl:=pl) (dA (he pins s σ H _ I hw) fun u s1 ⟨x,H1,I1,rx,b,v,ex,⟨dx,a0,eb,xa⟩,q⟩=>?_) ht;subst ex;obtain rfl:u=Value.ref b:=rx;refine nN I1 eb h.c.cl hm rfl ?_;refine PySem.W.callWith_K (first:=[.ref b]) (h₀:=X.base) I.ok.mod.vG hm.kp (dA (ha pos pins s1 σ H1 _ I1 q) fun us s2 ⟨vs,H2,I2,r,a,y,ev,ac,ie,eb2,q2⟩=>⟨I2.qO,?_⟩) qQ gH;subst ev;exact sQ (us:=.ref b::us) (vs:=[.ref b,.ref a]) (E:=E0) F (hr.mono hk) hb .nil qd I2 (.cons rfl r) ⟨b,a,_,_,rfl,ac,ie,eb2,q2⟩
theorem O2 (h:vn X.prog X.w X.K X.mg X.base C C2) (hr:fk k X.A) (hk:5≤k) (he:PE X o ta) (ha:PA X (e::es) t)
  (qQ:autoParam (starEach (e::es) X.env=(false,eval e X.env)::starEach es X.env) cW) (gH:autoParam ((backTo pos (starEach es X.env)).any (·.1)=false) cW) {pl:Sem Bool}
  (ht:autoParam (eval (.Call (.Attribute o "rounded_once" apos) (e::es) [] pos) X.env=(do
   let ov ←eval o X.env
   standAt apos.atName
   let (f,first) ←holding [ov] (getMethod ov "rounded_once" pl)
   callWith pos f first (backTo pos (starEach (e::es) X.env)) (backToKw pos (keywordEach [] X.env)))) cW):PE X (.Call (.Attribute o "rounded_once" apos) (e::es) [] pos) (U7 C C2 ta t):=by
 obtain⟨f,fd,hm,F,hb⟩:=h.once;intro pins s σ H Q I hw;refine PySem.W.methodCall_KW (pl:=pl) (dA (he pins s σ H _ I hw) fun u s1 ⟨x,H1,I1,rx,b,v,ex,⟨dx,a0,eb,xa⟩,q⟩=>?_) ht;subst ex;obtain rfl:u=Value.ref b:=rx;refine nN I1 eb h.c.cl hm rfl ?_;refine PySem.W.callWith_K (first:=[.ref b]) (h₀:=X.base) I.ok.mod.vG hm.kp (dA (ha pos pins s1 σ H1 _ I1 q) fun us s2 ⟨vs,H2,I2,r,kk,mm,ev,ac,pb,q2⟩=>⟨I2.qO,?_⟩) qQ gH;subst ev;exact sQ (us:=.ref b::us) (vs:=[.ref b,.int kk,.int mm]) (E:=E0) F (hr.mono hk) hb .nil qd I2 (.cons rfl r) ⟨b,_,kk,mm,rfl,ac,pb,q2⟩
theorem Mb (h:vn X.prog X.w X.K X.mg X.base C C2) (hr:fk k X.A) (hk:5≤k) (he:PE X o ta) {pl:Sem Bool}
  (ht:autoParam (eval (.Call (.Attribute o "make_empty" apos) [] [] pos) X.env=(do
   let ov ←eval o X.env
   standAt apos.atName
   let (f,first) ←holding [ov] (getMethod ov "make_empty" pl)
   callWith pos f first (backTo pos (starEach [] X.env)) (backToKw pos (keywordEach [] X.env)))) cW):PE X (.Call (.Attribute o "make_empty" apos) [] [] pos) (Se C C2 ta):=by
 obtain⟨f,fd,hm,F,hb⟩:=h.empty;intro pins s σ H Q I hw;refine PySem.W.methodCall_KW (pl:=pl) (dA (he pins s σ H _ I hw) fun u s1 ⟨x,H1,I1,rx,b,v,ex,⟨dx,a0,eb,xa⟩,q⟩=>?_) ht;subst ex;obtain rfl:u=Value.ref b:=rx;refine nN I1 eb h.c.cl hm rfl ?_;exact PySem.W.callWith_K0 (first:=[.ref b]) I1.qO hm.kp (sQ (us:=[.ref b]) (vs:=[.ref b]) (E:=E0) F (hr.mono hk) hb .nil qd I1 (.cons rfl .nil) ⟨b,_,rfl,⟨dx,a0,eb,xa⟩,q⟩)
end
section
variable {P:Program} {w:World} {K:aP} {mg:Str→Option Value} {base:Heap} {C C2 C3:Addr}
def Ag (K:aP) (C C3:Addr):Sp:=fun vs H Q _=>∃k m a r,vs=[.int k,.int m,.ref a]∧(bU K H a (fh r))∧((0≤k∧0≤m)∧BF.cS r∧r.length≤20000)∧∀l H',H l=none→aI H H'→H' l=some (.lst (fh (NumNeutral.step NumCalls.start [[7,k,m],r]).2))→Q (.ref l) H'
theorem qN:aD ["kind","mode","text","bits"] ["kind","mode","text"] (ay (top 158)):=bz
theorem DB (ak:Ev K mg C C2 C3):cw P w K mg base "answer_read" ["kind","mode","text"] 6 (Ag K C C3):=by
 have T:=ak.T;refine cQ (ak.df 101) qN qU (qV fun f bw A outer s H Q E hr k m a r h=>?_);obtain⟨o1,⟨⟨hk,hm⟩,hb,hl⟩,q⟩:=h;have o2:=Q5 o1 (O0 hb);refine⟨_,ah (aS (cy (PW.pt (dk (b8 eY (pv 0) (aG T.kU rfl)) (dk (b8 eY (pv 1) (aG T.g8 rfl)) (dR (b8 eY (bW cx rfl T.iu PySem.boot_len (aa (pv 2) (ae))) (aG T.D6 rfl))))))) (aj (aq (dz (aa (aG T.gT rfl) (ae))))) (aB)) (ah (Q3 ak.no rfl rfl rfl (fun pn W E hp=>aj (sv 3 qN.nd (XA (U3 ak) hr hp (aa (pv 0) (aa (pv 1) (aa (pv 2) (ae))))))) (fun v=>aj (aq (dz (aa (aG T.Lp rfl) (ae)))))) (aj (aq (pf (ee ak) hr (aa (pv 0) (aa (pv 3) (ae))))))),⟨(decide (3<k)||(decide (4<m)||decide (60<((ed (NumNeutral.bytes r)).length:Int)))),aE rfl rfl rfl rfl (aK (fun h2=>?d1) (fun h2=>aE rfl rfl rfl rfl (aK (fun h3=>?d2) (fun h3=>bP rfl rfl (.inl (o2)) (ck rfl rfl rfl ?d3))))),aK (fun h1=>⟨(by show _≤sizeLine;decide),fun l1 dE=>q _ _ ((aI.refl _).free dE) ((ai dE)) (b4 (aL) ?r1)⟩) (fun h1=>aW rfl rfl rfl (gk rfl (o2) ?p1 ⟨fun z2 U8=>br rfl rfl rfl ?p2 (fun a4 H4 n4 s4 x4=>q _ _ ((aI.refl _).free n4) (s4) (b4 (x4) ?r3)),fun U8=>⟨(by show _≤sizeLine;decide),fun l3 iZ=>q _ _ ((aI.refl _).free iZ) ((ai iZ)) (b4 (aL) ?r2)⟩⟩))⟩⟩
 case d1=>exact⟨by rw[h2];rfl,rfl⟩
 case d2=>exact⟨by rw[nt h2,h3];rfl,rfl⟩
 case d3=>exact⟨by rw[nt h2,nt h3];rfl,rfl⟩
 all_goals simp only[bR,dH,aF,BF.iG] at h1
 case r1 =>
  rw[BF.rQ _ hk hm];dsimp only;rw[if_neg Kk];rfl
 case p1=>exact⟨⟨hk,Kk⟩,⟨hm,Kk⟩,by rw[BF.iG];omega⟩
 case p2=>exact⟨⟨hk,Kk⟩,Ha U8⟩
 case r2 =>
  rw[BF.rQ _ hk hm];dsimp only;rw[if_pos Kk,U8];rfl
 case r3 =>
  rw[BF.rQ _ hk hm];dsimp only;rw[if_pos Kk,U8]
def yC (K:aP) (C C2:Addr):Sp:=fun vs H Q _=>∃b u,vs=[.ref b]∧(gm C C2 H b u)∧(True)∧∀l H',H l=none→gm C C2 H' b (BF.gJ 0)→SB b H H'→H' l=some (.lst (fh [0]))→Q (.ref l) H'
theorem yD:aD ["accumulator"] ["accumulator"] (ay (top 159)):=bz
theorem Ah (ak:Ev K mg C C2 C3):cw P w K mg base "answer_clear" ["accumulator"] 6 (yC K C C2):=by
 have T:=ak.T;refine cQ (ak.df 102) yD lu (lx fun f bw A outer s H Q E hr b u h=>?_);obtain⟨o1,hp,q⟩:=h;refine⟨_,ah (mv (Mb (zo ak) hr Ke (pv 0))) (aj (aq (dz (aa (aG T.Ji rfl) (ae))))),bP rfl rfl (o1) (fun A1 ac1 sb1=>⟨(by show _≤sizeLine;decide),fun l2 fo=>?r1⟩)⟩
 case r1=>exact q _ _ (sb1.free ac1.some fo) (ac1.same (ai fo)) (sb1.trans (ai fo)) aL
def DC (K:aP) (C C2:Addr):Sp:=fun vs H Q _=>∃b u st k m,vs=[.ref b,.int k,.int m]∧(gm C C2 H b u)∧((0≤k∧0≤m)∧BF.Rel st u∧PB u)∧∀l H',H l=none→aI H H'→H' l=some (.lst (fh (NumNeutral.step st [[10,k,m]]).2))→Q (.ref l) H'
theorem DD:aD ["accumulator","kind","mode"] ["accumulator","kind","mode"] (ay (top 161)):=bz
theorem EH (ak:Ev K mg C C2 C3):cw P w K mg base "answer_get" ["accumulator","kind","mode"] 6 (DC K C C2):=by
 have T:=ak.T;refine cQ (ak.df 104) DD B5 (B6 fun f bw A outer s H Q E hr b u st k m h=>?_);obtain⟨o1,⟨⟨hk,hm⟩,rl,pb⟩,q⟩:=h;refine⟨_,ah (aS (cy (PW.pt (dk (b8 eY (pv 1) (aG T.kU rfl)) (dR (b8 eY (pv 2) (aG T.g8 rfl)))))) (aj (aq (dz (aa (aG T.gT rfl) (ae))))) (aB)) (aj (aq (pf (ee ak) hr (aa (pv 1) (aa (O2 (zo ak) hr Ke (pv 0) (aa (pv 1) (aa (pv 2) (ae)))) (ae)))))),⟨(decide (3<k)||decide (4<m)),aE rfl rfl rfl rfl (aK (fun h2=>?d1) (fun h2=>aE rfl rfl rfl rfl ?d2)),aK (fun h1=>⟨(by show _≤sizeLine;decide),fun l1 dE=>q _ _ ((aI.refl _).free dE) ((ai dE)) (b4 (aL) ?r1)⟩) (fun h1=>bx rfl rfl rfl (o1) rfl (eK rfl rfl (o1) ?p1 (bG rfl ?p2 (fun a3 H3 n3 s3 x3=>q _ _ ((aI.refl _).free n3) (s3) (b4 (x3) ?r2)))))⟩⟩
 case d1=>exact⟨by rw[h2];rfl,rfl⟩
 case d2=>exact⟨by rw[nt h2];rfl,rfl⟩
 all_goals simp only[bR,dH] at h1
 case r1 =>
  rw[BF.Az _ hk hm];dsimp only;rw[if_neg Kk];rfl
 case p1=>exact⟨⟨hk,Kk⟩,⟨hm,Kk⟩,pb⟩
 all_goals have eg:=get_eq (k:=k) (m:=m) rl
 case p2=>exact⟨⟨hk,Kk⟩,by rw[eg];exact fL _⟩
 case r2 =>
  rw[BF.Az _ hk hm,eg,Int.toNat_natCast];dsimp only;rw[if_pos Kk]
def DE (K:aP) (C C2:Addr):Sp:=fun vs H Q _=>∃b u st n k a x y r1 r2,vs=[.ref b,.int k,.ref a]∧(gm C C2 H b u)∧(fR K H a [x,y] [r1,r2])∧((0≤k∧BF.cS r1∧BF.cS r2)∧BF.Rel st u∧AB n u∧n≤1000)∧∀l H' u',H l=none→gm C C2 H' b u'→BF.Rel (NumNeutral.step st [[9,k],r1,r2]).1 u'→AB (n+1) u'→SB b H H'→H' l=some (.lst (fh (NumNeutral.step st [[9,k],r1,r2]).2))→Q (.ref l) H'
theorem m8:aD ["accumulator","kind","rows","looked_at","a"] ["accumulator","kind","rows"] (ay (top 160)):=bz
theorem EI (ak:Ev K mg C C2 C3):cw P w K mg base "answer_add" ["accumulator","kind","rows"] 6 (DE K C C2):=by
 have T:=ak.T;refine cQ (ak.df 103) m8 VR (VS fun f bw A outer s H Q E hr b u st n k a x y r1 r2 h=>?_);obtain⟨o1,o2,⟨⟨hk,b1,b2⟩,rl,ab,hn⟩,q⟩:=h;refine⟨_,ah (sv 3 m8.nd (wJ (b9 (b8 (jI hr.units) (et aZ (pv 2) (al)) (dz (ae))) (eW fX (pv 2) (ja) (dT (al))) (pv 2)))) (ah (aS (i0 (aQ (pf (iJ ak) hr (aa (pv 1) (aa (pv 3) (ae)))))) (aj (aq (dz (aa (aG T.gT rfl) (ae))))) (aB)) (ah (sv 4 m8.nd (pf (dr ak) hr (aa (et aZ (pv 2) (al)) (ae)))) (ah (aS (b8 (jI hr.units) (et aZ (pv 2) (al)) (dz (ae))) (aj (mv (FL (zo ak) hr Ke (pv 0) (aa (pf (bA ak) hr (aa (pv 1) (aa (pv 4) (ae)))) (ae))))) (aj (mv (FL (zo ak) hr Ke (pv 0) (aa (pf (pI ak) hr (aa (pv 1) (aa (pv 4) (aa (pf (dr ak) hr (aa (et aZ (pv 2) (al)) (ae))) (ae))))) (ae)))))) (aj (aq (dz (aa (aG T.Ji rfl) (ae)))))))),⟨(fun l H'=>aI _ H'∧fR K H' l (if r2=[] then [x] else [x,y]) (if r2=[] then [r1] else [r1,r2])),bT rfl rfl rfl ((o2)).sq rfl ⟨(by show _≤sizeLine;decide),fun l1 dE=>pA rfl rfl (((ai dE)).seq ((o2.row 1 _ _ rfl rfl))) (bU.of (aL)) (by first | exact dO _ | exact dj _ | exact⟨[],rfl⟩ | exact⟨[_],rfl⟩ | exact⟨_,rfl⟩) (by first | exact dO _ | exact dj _ | exact⟨[],rfl⟩ | exact⟨[_],rfl⟩ | exact⟨_,rfl⟩) (bg rfl (aK (fun h1=>br rfl rfl rfl ((((o2).same (ai dE))).sq) (fun l2 fo=>⟨_,rfl,((ai dE)).trans (ai fo),?d1⟩)) (fun h1=>bg rfl ⟨_,rfl,(ai dE),?d2⟩)))⟩,fun l3 M3 ⟨m3,y3⟩=>aR rfl rfl (gk rfl (y3) ?p1 (bg rfl (aK (fun h2=>⟨(by show _≤sizeLine;decide),fun l4 j7=>?r1⟩) (fun h2=>bT rfl rfl rfl ((((o2).same m3)).sq) rfl (bJ rfl ((m3).seq ((o2.row 0 _ _ rfl rfl))) ?p2 (bT rfl rfl rfl ((((o2).same m3)).sq) rfl ⟨(by show _≤sizeLine;decide),fun l5 oE=>pA rfl rfl (((ai oE)).seq ((m3).seq ((o2.row 1 _ _ rfl rfl)))) (bU.of (aL)) (by first | exact dO _ | exact dj _ | exact⟨[],rfl⟩ | exact⟨[_],rfl⟩ | exact⟨_,rfl⟩) (by first | exact dO _ | exact dj _ | exact⟨[],rfl⟩ | exact⟨[_],rfl⟩ | exact⟨_,rfl⟩) (bg rfl (aK (fun h3=>aE rfl rfl (((o1).same m3).same (ai oE)) rfl (bP rfl rfl ?p3 (fun a6 H6 s6 x6=>bJ rfl ((((o1).same m3).same (ai oE)).same s6) (x6) ⟨?p4,fun A7 ac7 sb7=>⟨(by show _≤sizeLine;decide),fun l8 Dh=>?r2⟩⟩))) (fun h3=>aE rfl rfl (((o1).same m3).same (ai oE)) rfl (aR rfl rfl (iq rfl rfl (((((o2).same m3).same (ai oE))).sq) rfl (bJ rfl (((ai oE)).seq ((m3).seq ((o2.row 1 _ _ rfl rfl)))) ?p5 (e7 rfl ?p6 (fun a9 H9 s9 x9=>bJ rfl ((((o1).same m3).same (ai oE)).same s9) (x9) ⟨?p7,fun A10 VX aa8=>⟨(by show _≤sizeLine;decide),fun l11 pJ=>?r3⟩⟩))))))))⟩))))))⟩⟩
 case d1 =>
  have e:r2=[]:=List.map_eq_nil_iff.mp (fu.mp h1);rw[ao e,ao e];exact Nb (o2.same (ai (by assumption))) (by assumption)
 case d2 =>
  have e:¬r2=[]:=fun z=>h1 (by rw[z];rfl);rw[ag e,ag e];exact o2.same (ai (by assumption))
 case p1=>exact⟨hk,by split<;>exact yJ rfl⟩
 all_goals simp only[fG,Sd] at h2
 case r1 =>
  have e:=BF.Gv st hk b1 b2;rw[ag h2] at e;exact q _ _ u (m3.free j7) (o1.same (m3.trans (ai j7))) (by rw[e];exact rl) (ab.mono Kk) (oo (m3.trans (ai j7))) (by rw[e];exact aL)
 all_goals have tV:=Classical.not_not.mp h2
 all_goals have JU:=gG hk tV.1 b1 tV.2.1
 all_goals have n1:=(BF.gS b1).1
 all_goals have n2:=(BF.gS b2).1
 all_goals have l1:=BF.pq k b1 tV.2.1
 all_goals have e:=BF.Gv st hk b1 b2
 all_goals rw[ao tV] at e
 case p2=>exact⟨b1,mZ (k:=k) tV.2.1⟩
 case p3=>exact JU
 case p4=>exact⟨(ab.pb Kk).eb,(G1 JU).eb Ke Ke Ke⟩
 case r2 =>
  have z:r2=[]:=List.map_eq_nil_iff.mp (fu.mp h3);rw[ao z] at e;have sb:=Nc (m3.trans ((ai oE).trans s6)) sb7;refine q _ _ _ (sb.free ac7.some Dh) (ac7.same (ai Dh)) ?_ (CZ (m:=.near) ab (G1 JU)) (sb.trans (ai Dh)) (by rw[e];exact aL);rw[e];have:=BF.BU rl (v:=BF.ta (BF.fm k) (BF.cj r1)) (G1 JU).1;rw[←fC n1,BF.cY _ _ l1] at this;rw[fC n1] at this;exact this
 all_goals have z:¬r2=[]:=fun z=>h3 (by rw[z];rfl)
 all_goals have U9:=gG hk tV.1 b2 (tV.2.2 z)
 all_goals have l2:=BF.pq k b2 (tV.2.2 z)
 all_goals rw[ag z] at e
 case p5=>exact⟨b2,mZ (k:=k) (tV.2.2 z)⟩
 case p6=>exact⟨JU,U9⟩
 case p7=>exact⟨(ab.pb Kk).eb,(xg JU U9).eb Ke Ke Ke⟩
 case r3 =>
  have sb:=Nc (m3.trans ((ai oE).trans s9)) aa8;refine q _ _ _ (sb.free VX.some pJ) (VX.same (ai pJ)) ?_ (CZ (m:=.near) ab (xg JU U9)) (sb.trans (ai pJ)) (by rw[e];exact aL);rw[e];have:=BF.BU rl (v:=BF.gu (BF.ta (BF.fm k) (BF.cj r1)) (BF.ta (BF.fm k) (BF.cj r2))) (xg JU U9).1;rw[BF.nS] at this;have k1:=BF.cY (BF.fm k) _ l1;have k2:=BF.cY (BF.fm k) _ l2;rw[fC n1] at k1;rw[fC n2] at k2;rw[k1,k2] at this;exact this
end
set_option smartUnfolding true
theorem cD {tc:TT} {t u:TS} {D:Ends} {σ:L2.St} {H:Hp} {b:Bool} (hc:∀Q:Bool→Hp→Prop,Q b H→tc σ H Q) (hb:¬b=true) (h:u D σ H):Pq (Pr tc t Km) u D σ H:=hc _ (by rw[ag hb];exact h)
theorem xC {tc:TT} {t u:TS} {D:Ends} {σ:L2.St} {H:Hp} {b:Bool} (hc:∀Q:Bool→Hp→Prop,Q b H→tc σ H Q) (hb:b=true) (h:t (D.on u) σ H):Pq (Pr tc t Km) u D σ H:=hc _ (by rw[ao hb];exact h)
theorem FN {as:List Addr} {u:List Int} (h:as.length=[u].length):∃x,as=[x]:=match as,h with
 | [x],_=>⟨x,rfl⟩
theorem JV {as:List Addr} {u v:List Int} (h:as.length=[u,v].length):∃x y,as=[x,y]:=match as,h with
 | [x,y],_=>⟨x,y,rfl⟩
theorem aa9 {as:List Addr} {u v r:List Int} (h:as.length=[u,v,r].length):∃x y z,as=[x,y,z]:=match as,h with
 | [x,y,z],_=>⟨x,y,z,rfl⟩
section
variable {P:Program} {w:World} {K:aP} {mg:Str→Option Value} {base:Heap} {C C2 C3:Addr}
def Hb (K:aP) (C C2 C3:Addr):Sp:=fun vs H Q _=>∃b u st n p aw ar as W R,vs=[.ref b,.int p,.ref aw,.ref ar]∧gm C C2 H b u∧bU K H aw (fh W)∧fR K H ar as R∧(BF.Ask ((p::W)::R)∧BF.Rel st u∧AB n u∧n≤1000)∧∀l H' u',H l=none→gm C C2 H' b u'→BF.Rel (NumNeutral.step st ((p::W)::R)).1 u'→AB (n+1) u'→SB b H H'→H' l=some (.lst (fh (NumNeutral.step st ((p::W)::R)).2))→Q (.ref l) H'
theorem Hc:aD ["accumulator","number","wholes","rows"] ["accumulator","number","wholes","rows"] (ay (top 147)):=bz
theorem JW (ak:Ev K mg C C2 C3):cw P w K mg base "answered" ["accumulator","number","wholes","rows"] 12 (Hb K C C2 C3):=by
 have T:=ak.T;refine cQ (ak.df 90) Hc VR (VS fun f bw A outer s H Q E hr b u st n p aw ar as W R h=>?_);obtain⟨o1,o2,o3,⟨ask,rl,ab,hn⟩,q⟩:=h;refine⟨_,ah (aS (b8 bp (pv 1) (al)) (aj (aq (pf (G8 ak) hr (aa (et aZ (pv 2) (al)) (aa (et aZ (pv 2) (al)) (aa (et aZ (pv 2) (al)) (aa (pv 3) (ae)))))))) (aB)) (ah (aS (b8 bp (pv 1) (al)) (aj (aq (pf (ED ak) hr (aa (et aZ (pv 2) (al)) (aa (et aZ (pv 2) (al)) (aa (pv 3) (ae))))))) (aB)) (ah (aS (b8 bp (pv 1) (al)) (aj (aq (pf (z9 ak) hr (aa (et aZ (pv 2) (al)) (aa (et aZ (pv 2) (al)) (aa (et aZ (pv 2) (al)) (aa (pv 3) (ae)))))))) (aB)) (ah (aS (b8 bp (pv 1) (al)) (aj (aq (pf (Ds ak) hr (aa (et aZ (pv 2) (al)) (aa (et aZ (pv 2) (al)) (aa (et aZ (pv 2) (al)) (aa (pv 3) (ae)))))))) (aB)) (ah (aS (b8 bp (pv 1) (al)) (aj (aq (pf (G9 ak) hr (aa (et aZ (pv 2) (al)) (aa (et aZ (pv 2) (al)) (aa (et aZ (pv 2) (al)) (aa (pv 3) (ae)))))))) (aB)) (ah (aS (b8 bp (pv 1) (al)) (aj (aq (pf (EC ak) hr (aa (et aZ (pv 2) (al)) (aa (et aZ (pv 2) (al)) (aa (pv 3) (ae))))))) (aB)) (ah (aS (b8 bp (pv 1) (al)) (aj (aq (pf (Dv ak) hr (aa (et aZ (pv 2) (al)) (aa (pv 3) (ae)))))) (aB)) (ah (aS (b8 bp (pv 1) (al)) (aj (aq (pf (DB ak) hr (aa (et aZ (pv 2) (al)) (aa (et aZ (pv 2) (al)) (aa (et aZ (pv 3) (al)) (ae))))))) (aB)) (ah (aS (b8 bp (pv 1) (al)) (aj (aq (pf (Ah ak) hr (aa (pv 0) (ae))))) (aB)) (ah (aS (b8 bp (pv 1) (al)) (aj (aq (pf (EI ak) hr (aa (pv 0) (aa (et aZ (pv 2) (al)) (aa (pv 3) (ae))))))) (aB)) (ah (aS (b8 bp (pv 1) (al)) (aj (aq (pf (EH ak) hr (aa (pv 0) (aa (et aZ (pv 2) (al)) (aa (et aZ (pv 2) (al)) (ae))))))) (aB)) (ah (aS (b8 bp (pv 1) (al)) (aj (aq (pf (EF ak) hr (aa (et aZ (pv 2) (al)) (aa (et aZ (pv 2) (al)) (aa (et aZ (pv 2) (al)) (aa (pv 3) (ae)))))))) (aB)) (ah (aS (b8 bp (pv 1) (al)) (aj (aq (pf (EG ak) hr (aa (et aZ (pv 2) (al)) (aa (et aZ (pv 2) (al)) (aa (et aZ (pv 2) (al)) (aa (pv 3) (ae)))))))) (aB)) (ah (aS (b8 bp (pv 1) (al)) (aj (aq (pf (Ae ak) hr (aa (et aZ (pv 2) (al)) (aa (et aZ (pv 2) (al)) (aa (et aZ (pv 2) (al)) (aa (et aZ (pv 2) (al)) (aa (pv 3) (ae))))))))) (aB)) (aj (aq (pf (Af ak) hr (aa (et aZ (pv 2) (al)) (aa (et aZ (pv 2) (al)) (aa (et aZ (pv 2) (al)) (ae)))))))))))))))))))),?_⟩;cases ask with
 | op a1 a2 a3 u1 u2 ha hb hc b1 b2 =>
  obtain⟨x1,x2,rfl⟩:=JV o3.len;have fr:=BF.QP ha hb hc b1 b2;refine xC (fun _ q=>⟨_,rfl,_,_,rfl,rfl,_,rfl,q⟩) Ke (bT rfl rfl rfl (o2) rfl (bT rfl rfl rfl (o2) rfl (bT rfl rfl rfl (o2) rfl (bg rfl ⟨_,_,_,_,_,_,_,_,rfl,(o3),?p1,fun a1 H1 n1 s1 x1=>?r1⟩))))
  case p1=>exact⟨⟨ha,hb,hc⟩,b1,b2⟩
  case r1=>exact q _ _ u n1 (o1.same s1) (by rw[fr st];exact rl) (ab.mono Kk) (oo s1) (b4 x1 (by rw[fr st]))
 | fma a1 a2 u1 u2 u3 ha hb b1 b2 b3 =>
  obtain⟨x1,x2,x3,rfl⟩:=aa9 o3.len;have fr:=BF.Oi ha hb b1 b2 b3;refine cD (fun _ q=>⟨_,rfl,_,_,rfl,rfl,_,rfl,q⟩) Ke (xC (fun _ q=>⟨_,rfl,_,_,rfl,rfl,_,rfl,q⟩) Ke (bT rfl rfl rfl (o2) rfl (bT rfl rfl rfl (o2) rfl (bg rfl ⟨_,_,_,_,_,_,_,_,_,rfl,(o3),?p1,fun a1 H1 n1 s1 x1=>?r1⟩))))
  case p1=>exact⟨⟨ha,hb⟩,b1,b2,b3⟩
  case r1=>exact q _ _ u n1 (o1.same s1) (by rw[fr st];exact rl) (ab.mono Kk) (oo s1) (b4 x1 (by rw[fr st]))
 | scale a1 a2 a3 u1 ha hb b1 =>
  obtain⟨x1,rfl⟩:=FN o3.len;have fr:=BF.Jb (e:=a3) ha hb b1;refine cD (fun _ q=>⟨_,rfl,_,_,rfl,rfl,_,rfl,q⟩) Ke (cD (fun _ q=>⟨_,rfl,_,_,rfl,rfl,_,rfl,q⟩) Ke (xC (fun _ q=>⟨_,rfl,_,_,rfl,rfl,_,rfl,q⟩) Ke (bT rfl rfl rfl (o2) rfl (bT rfl rfl rfl (o2) rfl (bT rfl rfl rfl (o2) rfl (bg rfl ⟨_,_,_,_,_,_,rfl,(o3),?p1,fun a1 H1 n1 s1 x1=>?r1⟩))))))
  case p1=>exact⟨⟨ha,hb⟩,b1⟩
  case r1=>exact q _ _ u n1 (o1.same s1) (by rw[fr st];exact rl) (ab.mono Kk) (oo s1) (b4 x1 (by rw[fr st]))
 | conv a1 a2 a3 u1 ha hb hc b1 =>
  obtain⟨x1,rfl⟩:=FN o3.len;have fr:=BF.Lg ha hb hc b1;refine cD (fun _ q=>⟨_,rfl,_,_,rfl,rfl,_,rfl,q⟩) Ke (cD (fun _ q=>⟨_,rfl,_,_,rfl,rfl,_,rfl,q⟩) Ke (cD (fun _ q=>⟨_,rfl,_,_,rfl,rfl,_,rfl,q⟩) Ke (xC (fun _ q=>⟨_,rfl,_,_,rfl,rfl,_,rfl,q⟩) Ke (bT rfl rfl rfl (o2) rfl (bT rfl rfl rfl (o2) rfl (bT rfl rfl rfl (o2) rfl (bg rfl ⟨_,_,_,_,_,_,rfl,(o3),?p1,fun a1 H1 n1 s1 x1=>?r1⟩)))))))
  case p1=>exact⟨⟨ha,hb,hc⟩,b1⟩
  case r1=>exact q _ _ u n1 (o1.same s1) (by rw[fr st];exact rl) (ab.mono Kk) (oo s1) (b4 x1 (by rw[fr st]))
 | fn a1 a2 a3 u1 u2 ha hb hc b1 b2 =>
  obtain⟨x1,x2,rfl⟩:=JV o3.len;have fr:=BF.QQ ha hb hc b1 b2;refine cD (fun _ q=>⟨_,rfl,_,_,rfl,rfl,_,rfl,q⟩) Ke (cD (fun _ q=>⟨_,rfl,_,_,rfl,rfl,_,rfl,q⟩) Ke (cD (fun _ q=>⟨_,rfl,_,_,rfl,rfl,_,rfl,q⟩) Ke (cD (fun _ q=>⟨_,rfl,_,_,rfl,rfl,_,rfl,q⟩) Ke (xC (fun _ q=>⟨_,rfl,_,_,rfl,rfl,_,rfl,q⟩) Ke (bT rfl rfl rfl (o2) rfl (bT rfl rfl rfl (o2) rfl (bT rfl rfl rfl (o2) rfl (bg rfl ⟨_,_,_,_,_,_,_,_,rfl,(o3),?p1,fun a1 H1 n1 s1 x1=>?r1⟩))))))))
  case p1=>exact⟨⟨ha,hb,hc⟩,b1,b2⟩
  case r1=>exact q _ _ u n1 (o1.same s1) (by rw[fr st];exact rl) (ab.mono Kk) (oo s1) (b4 x1 (by rw[fr st]))
 | cmp a1 a2 u1 u2 ha hb b1 b2 =>
  obtain⟨x1,x2,rfl⟩:=JV o3.len;have fr:=BF.Oj ha hb b1 b2;refine cD (fun _ q=>⟨_,rfl,_,_,rfl,rfl,_,rfl,q⟩) Ke (cD (fun _ q=>⟨_,rfl,_,_,rfl,rfl,_,rfl,q⟩) Ke (cD (fun _ q=>⟨_,rfl,_,_,rfl,rfl,_,rfl,q⟩) Ke (cD (fun _ q=>⟨_,rfl,_,_,rfl,rfl,_,rfl,q⟩) Ke (cD (fun _ q=>⟨_,rfl,_,_,rfl,rfl,_,rfl,q⟩) Ke (xC (fun _ q=>⟨_,rfl,_,_,rfl,rfl,_,rfl,q⟩) Ke (bT rfl rfl rfl (o2) rfl (bT rfl rfl rfl (o2) rfl (bg rfl ⟨_,_,_,_,_,_,_,rfl,(o3),?p1,fun a1 H1 n1 s1 x1=>?r1⟩))))))))
  case p1=>exact⟨⟨ha,hb⟩,b1,b2⟩
  case r1=>exact q _ _ u n1 (o1.same s1) (by rw[fr st];exact rl) (ab.mono Kk) (oo s1) (b4 x1 (by rw[fr st]))
 | text a1 u1 ha b1 =>
  obtain⟨x1,rfl⟩:=FN o3.len;have fr:=BF.Lh ha b1;refine cD (fun _ q=>⟨_,rfl,_,_,rfl,rfl,_,rfl,q⟩) Ke (cD (fun _ q=>⟨_,rfl,_,_,rfl,rfl,_,rfl,q⟩) Ke (cD (fun _ q=>⟨_,rfl,_,_,rfl,rfl,_,rfl,q⟩) Ke (cD (fun _ q=>⟨_,rfl,_,_,rfl,rfl,_,rfl,q⟩) Ke (cD (fun _ q=>⟨_,rfl,_,_,rfl,rfl,_,rfl,q⟩) Ke (cD (fun _ q=>⟨_,rfl,_,_,rfl,rfl,_,rfl,q⟩) Ke (xC (fun _ q=>⟨_,rfl,_,_,rfl,rfl,_,rfl,q⟩) Ke (bT rfl rfl rfl (o2) rfl (bg rfl (gk rfl (o3) ?p1 (fun a1 H1 n1 s1 x1=>?r1))))))))))
  case p1=>exact⟨ha,b1⟩
  case r1=>exact q _ _ u n1 (o1.same s1) (by rw[fr st];exact rl) (ab.mono Kk) (oo s1) (b4 x1 (by rw[fr st]))
 | read a1 a2 u1 ha hb b1 hl =>
  obtain⟨x1,rfl⟩:=FN o3.len;have fr:=BF.Li (u:=u1) ha hb;refine cD (fun _ q=>⟨_,rfl,_,_,rfl,rfl,_,rfl,q⟩) Ke (cD (fun _ q=>⟨_,rfl,_,_,rfl,rfl,_,rfl,q⟩) Ke (cD (fun _ q=>⟨_,rfl,_,_,rfl,rfl,_,rfl,q⟩) Ke (cD (fun _ q=>⟨_,rfl,_,_,rfl,rfl,_,rfl,q⟩) Ke (cD (fun _ q=>⟨_,rfl,_,_,rfl,rfl,_,rfl,q⟩) Ke (cD (fun _ q=>⟨_,rfl,_,_,rfl,rfl,_,rfl,q⟩) Ke (cD (fun _ q=>⟨_,rfl,_,_,rfl,rfl,_,rfl,q⟩) Ke (xC (fun _ q=>⟨_,rfl,_,_,rfl,rfl,_,rfl,q⟩) Ke (bT rfl rfl rfl (o2) rfl (bT rfl rfl rfl (o2) rfl (bT rfl rfl rfl ((o3)).sq rfl (gk rfl ((o3.row 0 _ _ rfl rfl)) ?p1 (fun a1 H1 n1 s1 x1=>?r1))))))))))))
  case p1=>exact⟨⟨ha,hb⟩,b1,hl⟩
  case r1=>exact q _ _ u n1 (o1.same s1) (by rw[fr st];exact rl) (ab.mono Kk) (oo s1) (b4 x1 (by rw[fr st]))
 | clear  =>
  refine cD (fun _ q=>⟨_,rfl,_,_,rfl,rfl,_,rfl,q⟩) Ke (cD (fun _ q=>⟨_,rfl,_,_,rfl,rfl,_,rfl,q⟩) Ke (cD (fun _ q=>⟨_,rfl,_,_,rfl,rfl,_,rfl,q⟩) Ke (cD (fun _ q=>⟨_,rfl,_,_,rfl,rfl,_,rfl,q⟩) Ke (cD (fun _ q=>⟨_,rfl,_,_,rfl,rfl,_,rfl,q⟩) Ke (cD (fun _ q=>⟨_,rfl,_,_,rfl,rfl,_,rfl,q⟩) Ke (cD (fun _ q=>⟨_,rfl,_,_,rfl,rfl,_,rfl,q⟩) Ke (cD (fun _ q=>⟨_,rfl,_,_,rfl,rfl,_,rfl,q⟩) Ke (xC (fun _ q=>⟨_,rfl,_,_,rfl,rfl,_,rfl,q⟩) Ke (eK rfl rfl (o1) ?p1 ?r1)))))))))
  case p1=>exact trivial
  case r1=>exact fun l H' nl ac sb xl=>q _ _ _ nl ac BF.u6 (O1 _) sb xl
 | add a1 u1 u2 ha b1 b2 =>
  obtain⟨x1,x2,rfl⟩:=JV o3.len;refine cD (fun _ q=>⟨_,rfl,_,_,rfl,rfl,_,rfl,q⟩) Ke (cD (fun _ q=>⟨_,rfl,_,_,rfl,rfl,_,rfl,q⟩) Ke (cD (fun _ q=>⟨_,rfl,_,_,rfl,rfl,_,rfl,q⟩) Ke (cD (fun _ q=>⟨_,rfl,_,_,rfl,rfl,_,rfl,q⟩) Ke (cD (fun _ q=>⟨_,rfl,_,_,rfl,rfl,_,rfl,q⟩) Ke (cD (fun _ q=>⟨_,rfl,_,_,rfl,rfl,_,rfl,q⟩) Ke (cD (fun _ q=>⟨_,rfl,_,_,rfl,rfl,_,rfl,q⟩) Ke (cD (fun _ q=>⟨_,rfl,_,_,rfl,rfl,_,rfl,q⟩) Ke (cD (fun _ q=>⟨_,rfl,_,_,rfl,rfl,_,rfl,q⟩) Ke (xC (fun _ q=>⟨_,rfl,_,_,rfl,rfl,_,rfl,q⟩) Ke (aR rfl rfl (iq rfl rfl (o2) rfl (bg rfl ⟨_,_,st,n,_,_,_,_,_,_,rfl,(o1),(o3),?p1,?r1⟩))))))))))))
  case p1=>exact⟨⟨ha,b1,b2⟩,rl,ab,hn⟩
  case r1=>exact fun l H' u' nl ac re ab2 sb xl=>q _ _ _ nl ac re ab2 sb xl
 | get a1 a2 ha hb =>
  refine cD (fun _ q=>⟨_,rfl,_,_,rfl,rfl,_,rfl,q⟩) Ke (cD (fun _ q=>⟨_,rfl,_,_,rfl,rfl,_,rfl,q⟩) Ke (cD (fun _ q=>⟨_,rfl,_,_,rfl,rfl,_,rfl,q⟩) Ke (cD (fun _ q=>⟨_,rfl,_,_,rfl,rfl,_,rfl,q⟩) Ke (cD (fun _ q=>⟨_,rfl,_,_,rfl,rfl,_,rfl,q⟩) Ke (cD (fun _ q=>⟨_,rfl,_,_,rfl,rfl,_,rfl,q⟩) Ke (cD (fun _ q=>⟨_,rfl,_,_,rfl,rfl,_,rfl,q⟩) Ke (cD (fun _ q=>⟨_,rfl,_,_,rfl,rfl,_,rfl,q⟩) Ke (cD (fun _ q=>⟨_,rfl,_,_,rfl,rfl,_,rfl,q⟩) Ke (cD (fun _ q=>⟨_,rfl,_,_,rfl,rfl,_,rfl,q⟩) Ke (xC (fun _ q=>⟨_,rfl,_,_,rfl,rfl,_,rfl,q⟩) Ke (aR rfl rfl (iq rfl rfl (o2) rfl (bT rfl rfl rfl (o2) rfl ⟨_,_,st,_,_,rfl,(o1),?p1,fun a1 H1 n1 s1 x1=>?r1⟩)))))))))))))
  case p1=>exact⟨⟨ha,hb⟩,rl,ab.pb Kk⟩
  case r1=>exact q _ _ u n1 (o1.same s1) (by rw[BF.Az _ ha hb];exact rl) (ab.mono Kk) (oo s1) x1
 | sum a1 a2 a3 u1 ha hb hc b1 hl =>
  obtain⟨x1,rfl⟩:=FN o3.len;have fr:=BF.Ol ha hb hc b1;refine cD (fun _ q=>⟨_,rfl,_,_,rfl,rfl,_,rfl,q⟩) Ke (cD (fun _ q=>⟨_,rfl,_,_,rfl,rfl,_,rfl,q⟩) Ke (cD (fun _ q=>⟨_,rfl,_,_,rfl,rfl,_,rfl,q⟩) Ke (cD (fun _ q=>⟨_,rfl,_,_,rfl,rfl,_,rfl,q⟩) Ke (cD (fun _ q=>⟨_,rfl,_,_,rfl,rfl,_,rfl,q⟩) Ke (cD (fun _ q=>⟨_,rfl,_,_,rfl,rfl,_,rfl,q⟩) Ke (cD (fun _ q=>⟨_,rfl,_,_,rfl,rfl,_,rfl,q⟩) Ke (cD (fun _ q=>⟨_,rfl,_,_,rfl,rfl,_,rfl,q⟩) Ke (cD (fun _ q=>⟨_,rfl,_,_,rfl,rfl,_,rfl,q⟩) Ke (cD (fun _ q=>⟨_,rfl,_,_,rfl,rfl,_,rfl,q⟩) Ke (cD (fun _ q=>⟨_,rfl,_,_,rfl,rfl,_,rfl,q⟩) Ke (xC (fun _ q=>⟨_,rfl,_,_,rfl,rfl,_,rfl,q⟩) Ke (bT rfl rfl rfl (o2) rfl (bT rfl rfl rfl (o2) rfl (bT rfl rfl rfl (o2) rfl (bg rfl ⟨_,_,_,_,_,_,rfl,(o3),?p1,fun a1 H1 n1 s1 x1=>?r1⟩)))))))))))))))
  case p1=>exact⟨⟨ha,hb,hc⟩,b1,hl⟩
  case r1=>exact q _ _ u n1 (o1.same s1) (by rw[fr st];exact rl) (ab.mono Kk) (oo s1) (b4 x1 (by rw[fr st]))
 | dot a1 a2 a3 u1 u2 ha hb hc b1 b2 hl =>
  obtain⟨x1,x2,rfl⟩:=JV o3.len;have fr:=BF.Om ha hb hc b1 b2;refine cD (fun _ q=>⟨_,rfl,_,_,rfl,rfl,_,rfl,q⟩) Ke (cD (fun _ q=>⟨_,rfl,_,_,rfl,rfl,_,rfl,q⟩) Ke (cD (fun _ q=>⟨_,rfl,_,_,rfl,rfl,_,rfl,q⟩) Ke (cD (fun _ q=>⟨_,rfl,_,_,rfl,rfl,_,rfl,q⟩) Ke (cD (fun _ q=>⟨_,rfl,_,_,rfl,rfl,_,rfl,q⟩) Ke (cD (fun _ q=>⟨_,rfl,_,_,rfl,rfl,_,rfl,q⟩) Ke (cD (fun _ q=>⟨_,rfl,_,_,rfl,rfl,_,rfl,q⟩) Ke (cD (fun _ q=>⟨_,rfl,_,_,rfl,rfl,_,rfl,q⟩) Ke (cD (fun _ q=>⟨_,rfl,_,_,rfl,rfl,_,rfl,q⟩) Ke (cD (fun _ q=>⟨_,rfl,_,_,rfl,rfl,_,rfl,q⟩) Ke (cD (fun _ q=>⟨_,rfl,_,_,rfl,rfl,_,rfl,q⟩) Ke (cD (fun _ q=>⟨_,rfl,_,_,rfl,rfl,_,rfl,q⟩) Ke (xC (fun _ q=>⟨_,rfl,_,_,rfl,rfl,_,rfl,q⟩) Ke (bT rfl rfl rfl (o2) rfl (bT rfl rfl rfl (o2) rfl (bT rfl rfl rfl (o2) rfl (bg rfl ⟨_,_,_,_,_,_,_,_,rfl,(o3),?p1,fun a1 H1 n1 s1 x1=>?r1⟩))))))))))))))))
  case p1=>exact⟨⟨ha,hb,hc⟩,⟨b1,b2⟩,hl⟩
  case r1=>exact q _ _ u n1 (o1.same s1) (by rw[fr st];exact rl) (ab.mono Kk) (oo s1) (b4 x1 (by rw[fr st]))
 | whole a1 a2 a3 a4 u1 ha hb hc hd b1 =>
  obtain⟨x1,rfl⟩:=FN o3.len;have fr:=BF.Jc ha hb hc hd b1;refine cD (fun _ q=>⟨_,rfl,_,_,rfl,rfl,_,rfl,q⟩) Ke (cD (fun _ q=>⟨_,rfl,_,_,rfl,rfl,_,rfl,q⟩) Ke (cD (fun _ q=>⟨_,rfl,_,_,rfl,rfl,_,rfl,q⟩) Ke (cD (fun _ q=>⟨_,rfl,_,_,rfl,rfl,_,rfl,q⟩) Ke (cD (fun _ q=>⟨_,rfl,_,_,rfl,rfl,_,rfl,q⟩) Ke (cD (fun _ q=>⟨_,rfl,_,_,rfl,rfl,_,rfl,q⟩) Ke (cD (fun _ q=>⟨_,rfl,_,_,rfl,rfl,_,rfl,q⟩) Ke (cD (fun _ q=>⟨_,rfl,_,_,rfl,rfl,_,rfl,q⟩) Ke (cD (fun _ q=>⟨_,rfl,_,_,rfl,rfl,_,rfl,q⟩) Ke (cD (fun _ q=>⟨_,rfl,_,_,rfl,rfl,_,rfl,q⟩) Ke (cD (fun _ q=>⟨_,rfl,_,_,rfl,rfl,_,rfl,q⟩) Ke (cD (fun _ q=>⟨_,rfl,_,_,rfl,rfl,_,rfl,q⟩) Ke (cD (fun _ q=>⟨_,rfl,_,_,rfl,rfl,_,rfl,q⟩) Ke (xC (fun _ q=>⟨_,rfl,_,_,rfl,rfl,_,rfl,q⟩) Ke (bT rfl rfl rfl (o2) rfl (bT rfl rfl rfl (o2) rfl (bT rfl rfl rfl (o2) rfl (bT rfl rfl rfl (o2) rfl (bg rfl ⟨_,_,_,_,_,_,_,rfl,(o3),?p1,fun a1 H1 n1 s1 x1=>?r1⟩))))))))))))))))))
  case p1=>exact⟨⟨ha,hb,hc,hd⟩,b1⟩
  case r1=>exact q _ _ u n1 (o1.same s1) (by rw[fr st];exact rl) (ab.mono Kk) (oo s1) (b4 x1 (by rw[fr st]))
 | float a1 a2 a3 ha hb z1 z2 =>
  have fr:=BF.Jd (z:=a3) ha hb;refine cD (fun _ q=>⟨_,rfl,_,_,rfl,rfl,_,rfl,q⟩) Ke (cD (fun _ q=>⟨_,rfl,_,_,rfl,rfl,_,rfl,q⟩) Ke (cD (fun _ q=>⟨_,rfl,_,_,rfl,rfl,_,rfl,q⟩) Ke (cD (fun _ q=>⟨_,rfl,_,_,rfl,rfl,_,rfl,q⟩) Ke (cD (fun _ q=>⟨_,rfl,_,_,rfl,rfl,_,rfl,q⟩) Ke (cD (fun _ q=>⟨_,rfl,_,_,rfl,rfl,_,rfl,q⟩) Ke (cD (fun _ q=>⟨_,rfl,_,_,rfl,rfl,_,rfl,q⟩) Ke (cD (fun _ q=>⟨_,rfl,_,_,rfl,rfl,_,rfl,q⟩) Ke (cD (fun _ q=>⟨_,rfl,_,_,rfl,rfl,_,rfl,q⟩) Ke (cD (fun _ q=>⟨_,rfl,_,_,rfl,rfl,_,rfl,q⟩) Ke (cD (fun _ q=>⟨_,rfl,_,_,rfl,rfl,_,rfl,q⟩) Ke (cD (fun _ q=>⟨_,rfl,_,_,rfl,rfl,_,rfl,q⟩) Ke (cD (fun _ q=>⟨_,rfl,_,_,rfl,rfl,_,rfl,q⟩) Ke (cD (fun _ q=>⟨_,rfl,_,_,rfl,rfl,_,rfl,q⟩) Ke (bT rfl rfl rfl (o2) rfl (bT rfl rfl rfl (o2) rfl (bT rfl rfl rfl (o2) rfl (e7 rfl ?p1 (fun a1 H1 n1 s1 x1=>?r1))))))))))))))))))
  case p1=>exact⟨⟨ha,hb⟩,b6 Kk Ke⟩
  case r1=>exact q _ _ u n1 (o1.same s1) (by rw[fr st];exact rl) (ab.mono Kk) (oo s1) (b4 x1 (by rw[fr st]))
end
set_option smartUnfolding false
theorem JX {l:List Int} {z:Int} {v:Int} {rest:List Int} (h0:0≤z) (h:l.drop z.toNat=v::rest):lD (fh l) z=some (.int v):=by
 have hl:z.toNat<l.length:=by
  have:=a7 List.length h;rw[ez,cN] at this;omega
 have e:l[z.toNat]?=some v:=by
  have:=a7 (fun x=>x[0]?) h;simpa using this
 unfold lD xO;rw[aF,ao Kk,ao Kk,yH,aT,e];rfl
theorem O3 {l:List Int} {z:Int} {r rest:List Int} (h0:0≤z) (h:l.drop z.toNat=(r.length:Int)::(r++rest)):gc (fh l) (some (z+1)) (some (z+1+(r.length:Int)))=fh r:=by
 obtain⟨Z,rfl⟩:=aA h0;rw[aN] at h;have:=tO (fh l) (Z+1) (Z+1+r.length);rw[show Z+1+r.length-(Z+1)=r.length by omega,←oN,←oJ,←mh,h] at this;rw[DY,xI,List.take_left] at this;exact this
theorem sE {K:aP} {H:Hp} {a x:Addr} {xs:List V} {o:HO} (h:bU K H a xs) (n:a≠x):bU K (upd H x o) a xs:=by
 rcases h with (h | ⟨ob,h⟩) | h
 ·exact .inl (.inl (by rw[b7 n];exact h))
 ·exact .inl (.inr ⟨ob,by rw[b7 n];exact h⟩)
 ·exact .inr h
section
variable {P:Program} {w:World} {K:aP} {mg:Str→Option Value} {base:Heap} {C C2 C3:Addr}
def DF (K:aP) (C:Addr):Sp:=fun vs H Q _=>∃a l s n R t,vs=[.ref a,.int s,.int n]∧(bU K H a (fh l))∧(0≤s∧n=(R.length:Int)∧R.length≤3∧l.drop s.toNat=BF.bL R++t)∧∀x as H',H x=none→(∀y∈as,H y=none)→aI H H'→fR K H' x as R→Q (.ref x) H'
theorem iz:aD ["calls","start","count","rows","at","turn","end"] ["calls","start","count"] (ay (top 146)):=bz
theorem EJ (ak:Ev K mg C C2 C3):cw P w K mg base "taken_rows" ["calls","start","count"] 1 (DF K C):=by
 have T:=ak.T;refine cQ (ak.df 89) iz QS (QT fun f bw A outer s H Q E hr a l s n R t h=>?_);obtain⟨o1,⟨hs,rfl,h3,WQ⟩,q⟩:=h;refine⟨_,ah (sv 3 iz.nd (dz (ae))) (ah (sv 4 iz.nd (pv 1)) (ah (nM PassesOwn.never rfl (uE rfl T.wN (aa (pv 2) (ae))) (eM (i:=5) iz.nd rfl (Or.inl rfl)) (ah (sv 6 iz.nd (aH bX (aH bX (pv 4) (al)) (et aZ (pv 0) (pv 4)))) (ah (mv (Ky PySem.F.plainAttrs_list PySem.F.slot_list_append PySem.F.type_list_append Bd (pv 3) (aa (eW fX (pv 0) (dT (aH bX (pv 4) (al))) (dT (pv 6))) (ae)))) (aj (sv 4 iz.nd (pv 6)))))) (aj (aq (pv 3))))),⟨(by show _≤sizeLine;decide),fun l1 dE=>bg rfl (cP rfl rfl ?c1 ⟨?c2,?f1⟩)⟩⟩
 case c1=>omega
 case c2=>omega
 case f1 =>
  refine oe R.length (fun i σ H'=>(∃t1 t2,σ=[some (.ref a),some (.int s),some (.int (R.length:Int)),some (.ref l1),some (.int (s+((BF.bL (R.take i)).length:Int))),t1,t2])∧aI H H'∧∃as:List Addr,H' l1=some (.lst (as.map V.ref))∧as.length=i∧∀(j:Nat) (y:Addr) (r:List Int),as[j]?=some y→R[j]?=some r→H y=none∧y≠l1∧bU K H' y (fh r)) ⟨⟨_,_,by rw[DO,show s+(((BF.bL []).length:Nat):Int)=s from Int.add_zero s];rfl⟩,ai dE,[],aL,rfl,fun j y r e1 _=>by simp at e1⟩ ?_ ?_
  ·rintro i σ H' hi ⟨⟨t1,t2,rfl⟩,sm,as,hx,hlen,jR⟩;have hr:R[i]?=some (R[i]'hi):=bI hi;generalize R[i]'hi=r at hr;obtain⟨hd0,hln⟩:=BF.Lj WQ hr;have hz:0≤s+((BF.bL (R.take i)).length:Int):=by omega
   have hd:l.drop (s+((BF.bL (R.take i)).length:Int)).toNat=(r.length:Int)::(r++(BF.bL (R.drop (i+1))++t)):=by
    rw[show (s+((BF.bL (R.take i)).length:Int)).toNat=s.toNat+(BF.bL (R.take i)).length by omega];exact hd0
   refine⟨by show i<_;omega,?_⟩;rintro x H2 ⟨rfl,rfl⟩;refine aE rfl rfl rfl rfl (bT rfl rfl rfl ((sm).seq (o1)) (JX hz hd) (bG rfl rfl (eH rfl (.inl ⟨rfl,_,(bU.of (hx))⟩) (bx rfl rfl rfl rfl rfl (br rfl rfl rfl ((sm).seq (o1)) (fun l2 fo=>jt rfl rfl (((ai fo) _ _ (hx))) ⟨?c3,bg rfl ?e1⟩))))))
   case c3=>rw[aF];unfold sizeLine;omega
   case e1 =>
    rename_i l2 fo;have ne:l1≠l2:=dc hx fo;refine⟨⟨_,_,by rw[hln,show s+(((BF.bL (R.take i)).length+1+r.length:Nat):Int)=s+((BF.bL (R.take i)).length:Int)+1+(r.length:Int) by omega];rfl⟩,?_,as++[l2],?_,by simp[hlen],?_⟩
    ·intro b o e;rw[b7 (dc e dE)];exact(sm.trans (ai fo)) b o e
    ·rw[aL,yI];rfl
    ·intro j y r' e1 e2;by_cases c:j<as.length
     ·rw[uk c] at e1;obtain⟨n0,n1,q1⟩:=jR j y r' e1 e2;exact⟨n0,n1,sE ((ai fo).seq q1) n1⟩
     ·rw[uh Kk] at e1;have hj:j=i:=by
       have:=(hG.mp e1).1;simp at this;omega
      subst hj;rw[hlen,Nat.sub_self] at e1;obtain rfl:l2=y:=by simpa using e1
      rw[hr] at e2;obtain rfl:r=r':=bM e2;exact⟨sm.free fo,fun z=>ne z.symm,sE (bU.of (b4 aL (O3 hz hd))) (fun z=>ne z.symm)⟩
  ·rintro σ H' ⟨⟨t1,t2,rfl⟩,sm,as,hx,hlen,jR⟩;refine⟨by show _≤R.length;omega,?_⟩;refine bg rfl ?r1
   case r1 =>
    refine q _ as _ dE (fun y hy=>?_) sm ⟨bU.of hx,hlen,fun j y r e1 e2=>(jR j y r e1 e2).2.2⟩;obtain⟨j,hj,rfl⟩:=List.mem_iff_getElem.mp hy;exact(jR j _ (R[j]'Kk) (bI hj) (bI Kk)).1
end
structure ShC (K:aP) (mg:Str→Option Value) (ra:List Addr):Prop where
 ct:CT K mg "SHAPES" (ra.map V.ref)
 len:ra.length=15
 row:∀(i:Nat) (x:Addr) (p:Int×Int),ra[i]?=some x→BF.k4[i]?=some p→∀H,j5 K H x [.int p.1,.int p.2]
theorem Va {ra:List Addr} {p:Int} {x:Addr} (h0:0≤p) (h:ra[p.toNat]?=some x):lD (ra.map V.ref) p=some (.ref x):=by
 have hl:=(hG.mp h).1;unfold lD xO;rw[aF,ao Kk,ao Kk,yH,aT,h];rfl
theorem Vb {l:List Int} {z:Nat} {p:Int} {W rest:List Int} (h:l.drop z=p::(W++rest)):gc (fh l) (some ((z:Int)+1)) (some ((z:Int)+1+(W.length:Int)))=fh W:=by
 have:=tO (fh l) (z+1) (z+1+W.length);rw[show z+1+W.length-(z+1)=W.length by omega,←oN,←oJ,←mh,h] at this;rw[DY,xI,List.take_left] at this;exact this
theorem gy (k:Int) (x:Nat):(BF.ia (BF.fm k) x).length≤200:=by
 have:=BF.gA k;unfold BF.ia BF.ux;rw[cN,cN,aF,rk];omega
theorem O4 {c:List (List Int)} (h:BF.Ask c) (st:BF.St):(NumNeutral.step st c).2.length≤200:=by
 cases h with
 | op a b c u v ha hb hc hu hv=>rw[BF.Gs _ ha hb hc hu hv];dsimp only;split;exact gy _ _;decide
 | fma a b u v x ha hb hu hv hx=>rw[BF.Ax _ ha hb hu hv hx];dsimp only;split;exact gy _ _;decide
 | scale a b e u ha hb hu=>rw[BF.tu _ ha hb hu];dsimp only;split;exact gy _ _;decide
 | conv a b c u ha hb hc hu=>rw[BF.wC _ ha hb hc hu];dsimp only;split;exact gy _ _;decide
 | fn a b c u v ha hb hc hu hv=>rw[BF.Gu _ ha hb hc hu hv];dsimp only;split;exact gy _ _;decide
 | cmp a b u v ha hb hu hv=>rw[BF.Ay _ ha hb hu hv];dsimp only;split;exact Nat.le_of_ble_eq_true rfl;decide
 | text a u ha hu =>
  rw[BF.wD _ ha hu];dsimp only;split
  ·next h =>
   have:=FI (gG ha h.1 hu h.2);unfold BF.yb;rw[cN,cN,aF];omega
  ·decide
 | read a b u ha hb hu hl =>
  rw[BF.rQ _ ha hb];dsimp only;split
  ·split
   ·exact gy _ _
   ·decide
  ·decide
 | clear=>exact yJ rfl
 | add a u v ha hu hv=>rw[BF.Gv _ ha hu hv];split;exact yJ rfl;exact yJ rfl
 | get a b ha hb=>rw[BF.Az _ ha hb];dsimp only;split;exact gy _ _;decide
 | sum a b c u ha hb hc hu hl=>rw[BF.AA _ ha hb hc hu];dsimp only;split;exact gy _ _;decide
 | dot a b c u v ha hb hc hu hv hl=>rw[BF.AD _ ha hb hc hu hv];dsimp only;split;exact gy _ _;decide
 | whole a b c d u ha hb hc hd hu=>rw[BF.tw _ ha hb hc hd hu];dsimp only;split;exact Nat.le_of_ble_eq_true rfl;decide
 | float a b z ha hb=>rw[BF.tx _ _ ha hb];dsimp only;split;exact gy _ _;decide
theorem Hd {b y:Addr} {H H1:Hp} {xs:List V} {C2 dx:Addr} {fs:List (Str×V)} (sb:SB b H H1) (hb:H b=some (.ins C2 dx fs)) (h:H y=some (.lst xs)):H1 y=some (.lst xs):=sb y _ h (FO h hb (by intro z;cases z))
theorem Nd {K:aP} {b y:Addr} {H H1:Hp} {xs:List V} {C2 dx:Addr} {fs:List (Str×V)} (sb:SB b H H1) (hb:H b=some (.ins C2 dx fs)) (h:bU K H y xs):bU K H1 y xs:=by
 rcases h with (h | ⟨o,h⟩) | h
 ·exact .inl (.inl (Hd sb hb h))
 ·exact .inl (.inr ⟨o,sb y _ h (FO h hb (by intro z;cases z))⟩)
 ·exact .inr h
theorem gm.ins {C C2:Addr} {H:Hp} {b:Addr} {u:BF.Ex} (h:gm C C2 H b u):∃dx fs,H b=Option.some (.ins C2 dx fs):=let ⟨dx,_,e,_⟩:=h;⟨dx,_,e⟩
theorem Vc {C C2:Addr} {H:Hp} {b gv:Addr} {u:BF.Ex} {xs:List V} {o:HO} (h:gm C C2 H b u) (hg:H gv=some (.lst xs)):gm C C2 (upd H gv o) b u:=by
 obtain⟨dx,a,e,dx2,x⟩:=h;exact⟨dx,a,by rw[b7 (FO e hg (by intro z;cases z))];exact e,dx2,by rw[b7 (FO x hg (by intro z;cases z))];exact x⟩
theorem O5 {i:Nat} {n k:Nat} (h:BF.k4[i]?=some ((n:Int),(k:Int))):k≤3:=by
 have:∀p∈BF.k4,p.2≤3:=by decide
 have:=this _ (List.mem_of_getElem? h);dsimp only at this;omega
structure AG where
 pos:Nat
 cs:List (List (List Int))
 st:BF.St
 u:BF.Ex
 n:Nat
 g:List Int
structure AI (C C2:Addr) (l:List Int) (b gv:Addr) (H:Hp) (z:AG) (H':Hp):Prop where
 sm:aI H H'
 ac:gm C C2 H' b z.u
 gF:H' gv=some (.lst (fh z.g))
 rl:BF.Rel z.st z.u
 ab:AB z.n z.u
 Sf:z.n+z.cs.length≤400
 parse:∃f,PyFlat.calls PyWrlnta.shape f (l.drop z.pos)=some z.cs
 asked:∀c∈z.cs,BF.Xc c
 pos:z.pos≤l.length
 He:z.g++PyFlat.told (PyFlat.played NumNeutral.step z.st z.cs)=PyWrlnta.answers l
 len:z.g.length≤300*z.n
def zp (K:aP) (C C2 C3:Addr):Sp:=fun vs H Q _=>∃a l,vs=[.ref a]∧bU K H a (fh l)∧(PyWrlnta.answers_asked l=true∧l.length≤20000)∧∀g H',H g=none→aI H H'→H' g=some (.lst (fh (PyWrlnta.answers l)))→Q (.ref g) H'
section
variable {P:Program} {w:World} {K:aP} {mg:Str→Option Value} {base:Heap} {C C2 C3:Addr} {ra:List Addr}
theorem f7:aD ["calls","accumulator","given","at","shape","wholes","rows","answer","row"] ["calls"] (ay (top 145)):=bz
set_option maxHeartbeats 2000000 in
theorem Mc (ak:Ev K mg C C2 C3) {f:Addr} {fd:FuncData} (F:xR K "answers" "answers" (top 145) f fd) (hC:ShC K mg ra):jA P w K mg base Bo 13 f fd ["calls"] (zp K C C2 C3):=by
 have T:=ak.T;refine F.ok f7 (by rintro vs H Q E ⟨a,l,rfl,_⟩;rfl) fun bw A outer s H vs Q E hr h=>?_;obtain⟨a,l,rfl,o1,⟨Nf,hl⟩,q⟩:=h;obtain⟨cs,PV⟩:=BF.IY Nf;obtain⟨abb,jR⟩:=BF.IX PV;obtain⟨afx,_,Vd⟩:=jR Nf;refine⟨_,ah (sv 1 f7.nd (MX (zo ak) hr Ke rfl)) (ah (sv 2 f7.nd (dz (ae))) (ah (sv 3 f7.nd (al)) (ah (jQ PassesOwn.never (cy (b8 jx (pv 3) (bW cx rfl T.iu PySem.boot_len (aa (pv 0) (ae))))) (ah (sv 4 f7.nd (ib hC.ct rfl (et aZ (pv 0) (pv 3)))) (ah (sv 5 f7.nd (eW fX (pv 0) (dT (aH bX (pv 3) (al))) (dT (aH bX (aH bX (pv 3) (al)) (et vT (pv 4) (al)))))) (ah (sv 6 f7.nd (pf (EJ ak) hr (aa (pv 0) (aa (aH bX (aH bX (pv 3) (al)) (et vT (pv 4) (al))) (aa (et vT (pv 4) (al)) (ae)))))) (ah (sv 7 f7.nd (pf (JW ak) hr (aa (pv 1) (aa (et aZ (pv 0) (pv 3)) (aa (pv 5) (aa (pv 6) (ae))))))) (ah (mv (Ky PySem.F.plainAttrs_list PySem.F.slot_list_append PySem.F.type_list_append Bd (pv 2) (aa (bW cx rfl T.iu PySem.boot_len (aa (pv 7) (ae))) (ae)))) (ah (mv (Ky PySem.F.plainAttrs_list PySem.F.slot_list_extend PySem.F.type_list_extend KA (pv 2) (aa (pv 7) (ae)))) (aj (sv 3 f7.nd (aH bX (aH bX (aH bX (pv 3) (al)) (bW cx rfl T.iu PySem.boot_len (aa (pv 5) (ae)))) (bW (S8 rfl) rfl T.Xz boot_sum (aa (uP rfl f7.nd (oQ (pv 6)) (own:=[("row",8)]) (jl rfl) (fun _ _ _ _ _=>eM (i:=8) f7.nd rfl (Or.inl rfl)) (fun _ _ _ _ _=>kh) (fun _ _ _ _ _=>aH bX (al) (bW (Dn (K:=K) rfl) rfl T.iu PySem.boot_len (aa (pv 8) (ae))))) (ae))))))))))))) (aj (aq (pv 2)))))),?_⟩;intro b dx nb nd ne;refine⟨b,dx,rfl,aL,fun H1 ac sb=>⟨rfl,?_⟩⟩;have s1:aI H H1:=aI.made nb nd sb;refine⟨(by show _≤sizeLine;decide),fun gv XZ=>?_⟩;have ng:H gv=none:=s1.free XZ;refine gW (fun (z:AG) σ H'=>(∃t4 t5 t6 t7 t8,σ=[some (.ref a),some (.ref b),some (.ref gv),some (.int (z.pos:Int)),t4,t5,t6,t7,t8])∧AI C C2 l b gv H z H') (fun z=>l.length-z.pos) ⟨0,cs,NumCalls.start,BF.gJ 0,0,[]⟩ ⟨⟨_,_,_,_,_,rfl⟩,⟨s1.trans (ai XZ),ac.same (ai XZ),aL,BF.u6,tL,by show 0+cs.length≤400;omega,⟨_,PV⟩,Vd,iC _,abb.symm,iC _⟩⟩ ?_;rintro⟨z,cs,st,u,n,g⟩ σ H' ⟨⟨t4,t5,t6,t7,t8,rfl⟩,I⟩;have sm:=I.sm;have acF:=I.ac;have gF:=I.gF;refine⟨decide ((z:Int)<(l.length:Int)),⟨_,rfl,_,rfl,_,_,rfl,(.inl (sm.seq o1)),_,_,rfl,rfl,_,rfl,by rw[aF];exact⟨rfl,rfl⟩⟩,?_⟩;by_cases c:(z:Int)<(l.length:Int)
 ·rw[dv c,ao rfl];obtain⟨f0,hp⟩:=I.parse;have ne0:l.drop z≠[]:=by
   intro e;have:=a7 List.length e;rw[ez] at this;simp at this;omega
  obtain⟨f1,p,W,R,t,u9,TM,hd,rfl,TU⟩:=BF.Je hp ne0;replace hd:l.drop z=p::(W++(BF.bL R++t)):=hd;obtain⟨p0,Jv,psh⟩:=BF.IZ TM;have ask:=BF.T9 (I.asked _ (fD));have hz:(0:Int)≤(z:Int):=fL _;have rf:l.drop ((z:Int)).toNat=p::(W++(BF.bL R++t)):=by rw[aN];exact hd
  have cat:=JX hz rf;have R3:R.length≤3:=O5 psh;have X0:ra[p.toNat]?=some (ra[p.toNat]'(by rw[hC.len];omega)):=bI (by rw[hC.len];omega);generalize ra[p.toNat]'(by rw[hC.len];omega)=xs at X0;have X1:=hC.row _ _ _ X0 psh;refine⟨_,rfl,_,rfl,_,_,_,_,rfl,rfl,(sm.seq o1),cat,_,_,rfl,(Va p0 X0),?_⟩;refine⟨_,rfl,_,rfl,_,_,rfl,rfl,_,rfl,_,rfl,_,_,rfl,rfl,_,rfl,_,_,_,_,rfl,rfl,X1 _,rfl,_,_,rfl,rfl,_,rfl,_,_,rfl,(sm.seq o1),fun lw Md=>?_⟩;have s2:=sm.trans (ai Md (o:=.lst (gc (fh l) (some ((z:Int)+1)) (some ((z:Int)+1+(W.length:Int))))));refine⟨_,rfl,_,rfl,_,_,rfl,rfl,_,rfl,_,_,_,_,rfl,rfl,X1 _,rfl,_,_,rfl,rfl,_,rfl,_,_,_,_,rfl,rfl,X1 _,rfl,_,_,_,_,R,t,rfl,(s2.seq o1),?_,fun ar as H3 u5 nas s3 rF=>?_⟩
  ·refine⟨Kk,rfl,R3,?_⟩;rw[show ((z:Int)+1+(W.length:Int)).toNat=z+(1+W.length) by omega,←mh,hd,k6 1,DY,JY]
  have wF:H3 lw=some (.lst (fh W)):=s3 _ _ (b4 aL (Vb hd));have s4:=s2.trans s3;refine⟨_,rfl,_,rfl,_,rfl,_,_,_,_,rfl,rfl,(s4.seq o1),cat,_,rfl,_,rfl,_,_,st,n,_,_,_,_,_,_,rfl,(acF.same ((ai Md).trans s3)),(bU.of wF),rF,⟨ask,I.rl,I.ab,by have:=I.Sf;dsimp only at this;omega⟩,fun la H4 u' nla ac4 rl4 ab4 Sg Sh=>?_⟩;have hal:=O4 ask st;generalize qQ:(NumNeutral.step st ((p::W)::R)).2=sF at Sh hal;generalize hs1:(NumNeutral.step st ((p::W)::R)).1=qR at rl4;obtain⟨dxb,fsb,Ve⟩:=(acF.same ((ai Md).trans s3)).ins;have gF3:H3 gv=some (.lst (fh g)):=s3 _ _ ((ai Md) _ _ gF);have X3:=Hd Sg Ve gF3;have wF4:=Hd Sg Ve wF;have abh:lw≠gv:=fun e=>by rw[e,gF] at Md;cases Md
  have gFu:=(ai Md (o:=.lst (gc (fh l) (some ((z:Int)+1)) (some ((z:Int)+1+(W.length:Int)))))) _ _ gF;have abj:ar≠gv:=fun e=>by rw[e,gFu] at u5;cases u5
  have abk:∀y∈as,y≠gv:=fun y hy e=>by have:=nas y hy;rw[e,gFu] at this;cases this
  have abl:la≠gv:=fun e=>by rw[e,gF3] at nla;cases nla
  have abm:=I.len;have Sf:=I.Sf;dsimp only at abm Sf;rw[List.length_cons] at Sf;refine⟨_,rfl,(.inl ⟨rfl,_,(bU.of X3)⟩),_,rfl,_,_,rfl,(.inl (bU.of Sh)),_,_,_,rfl,rfl,X3,by rw[List.length_map];unfold sizeLine;omega,?_⟩;refine⟨_,rfl,(.inl ⟨rfl,_,(bU.of aL)⟩),_,rfl,_,_,_,_,rfl,rfl,aL,by rw[b7 abl];exact Sh,by rw[List.length_append,List.length_map,List.length_map];show g.length+1+sF.length≤_;unfold sizeLine;omega,?_⟩;rw[Ph];have e6:fh g++[V.int ((fh sF).length:Int)]++fh sF=fh (g++((sF.length:Int)::sF)):=by
   rw[aF,kI];exact(yI (f:=V.int) (l₁:=g) (l₂:=(sF.length:Int)::sF)).symm
  rw[e6];generalize ho6:HO.lst (fh (g++((sF.length:Int)::sF)))=o6;have wF6:bU K (upd H4 gv o6) lw (fh W):=sE (bU.of wF4) abh;have Vf:bU K (upd H4 gv o6) ar (as.map V.ref):=sE (Nd Sg Ve rF.sq) abj;have rR6:∀(i:Nat) (x:Addr) (r:List Int),as[i]?=some x→R[i]?=some r→bU K (upd H4 gv o6) x (fh r):=fun i x r e1 e2=>sE (Nd Sg Ve (rF.row i x r e1 e2)) (abk x (uq e1));have s6:aI H (upd H4 gv o6):=fun y o e=>by rw[b7 (dc e ng)];exact(JK s4 nb Sg) y o e
  refine⟨_,rfl,_,_,rfl,rfl,_,rfl,_,_,rfl,(.inl wF6),_,_,rfl,rfl,_,rfl,_,rfl,⟨_,Vf⟩,fun D1 yo=>?_⟩;refine mf R.length (by unfold sizeLine;omega) yo (fun i v _=>∃r,R[i]?=some r∧v=.int (1+(r.length:Int))) (fun _ _ _ _ _ e=>e) (fun _ _ _ _ _ _ e=>e) ?_ ?_
  ·intro i Hi Kx hi si hK;have xa:as[i]?=some (as[i]'(by rw[rF.len];exact hi)):=bI (by rw[rF.len];exact hi);have xb:R[i]?=some (R[i]'hi):=bI hi;refine⟨⟨_,_,si.seq Vf,by rw[aT,xa];rfl⟩,?_⟩;rintro v H2 ⟨rfl,hv⟩;have ex:=hv _ (si.seq Vf);rw[aT,xa] at ex;have xr:=rR6 i _ _ xa xb;generalize as[i]'(by rw[rF.len];exact hi)=y at *;generalize R[i]'hi=r at *;obtain rfl:V.ref y=v:=bM ex;refine⟨rfl,⟨_,rfl,_,_,rfl,(.inl (si.seq xr)),_,_,rfl,rfl,?_⟩⟩;exact hK _ _ (aI.refl _) ⟨r,xb,by rw[aF]⟩
  ·intro H7 acc s7 ha afz hv;have e:acc=fh (R.map fun r=>(1:Int)+r.length):=by
    refine j8 fun i=>?_;by_cases cc:i<acc.length
    ·obtain⟨r,e1,e2⟩:=hv i _ (bI cc);rw[bI cc,e2,aT,aT,e1];rfl
    ·rw[eP Kk,eP (by simp;omega)]
   subst e;refine⟨⟨_,s7.seq Vf,by simp[rF.len]⟩,?_⟩;refine⟨_,_,rfl,(bU.of ha),_,_,rfl,rfl,?_⟩;have fl:=BF.Fq R;have hlen:=a7 List.length hd;rw[ez,cN,cT,cT] at hlen;have zl:z≤l.length:=I.pos;refine⟨⟨z+(1+W.length+(BF.bL R).length),u9,qR,u',n+1,g++((sF.length:Int)::sF)⟩,⟨⟨_,_,_,_,_,by rw[aF,←fl,show ((z+(1+W.length+(BF.bL R).length):Nat):Int)=(z:Int)+1+(W.length:Int)+((BF.bL R).length:Int) by omega];rfl⟩,⟨s6.trans s7,?_,?_,rl4,ab4,by show n+1+u9.length≤400;omega,⟨f1,?_⟩,fun c hc=>I.asked c (dw _ hc),by show z+(1+W.length+(BF.bL R).length)≤l.length;omega,?_,?_⟩⟩,by show l.length-(z+(1+W.length+(BF.bL R).length))<l.length-z;omega⟩
   ·refine gm.same ?_ s7;exact Vc ac4 X3
   ·show H7 gv=some (.lst (fh (g++((sF.length:Int)::sF))));exact s7 _ _ (by rw[aL,←ho6])
   ·show PyFlat.calls PyWrlnta.shape f1 (l.drop (z+(1+W.length+(BF.bL R).length)))=some u9;rw[←mh,hd,Nat.add_assoc,k6 1,DY,←kI,←cT,JY];exact TU
   ·have He:=I.He;dsimp only at He;show (g++((sF.length:Int)::sF))++PyFlat.told (PyFlat.played NumNeutral.step qR u9)=_;rw[←He,←qQ,←hs1,List.append_assoc];rfl
   ·show (g++((sF.length:Int)::sF)).length≤300*(n+1);rw[cT,cN];omega
 ·rw[decide_eq_false c,if_neg Ke];obtain⟨f0,hp⟩:=I.parse;have zl:z≤l.length:=I.pos;have e0:l.drop z=[]:=List.drop_eq_nil_of_le Kk;dsimp only at hp;rw[e0] at hp;have He:=I.He;dsimp only at He;rw[BF.Lk hp] at He;refine⟨_,rfl,q _ _ ng sm (b4 gF ?_)⟩;show fh g=_;rw[←He];show fh g=fh (g++[]);rw[List.append_nil]
end
def Me (K:aP):Sp:=zp K 0 0 0
section
variable {K:aP} {h:Heap} {mg:Str→Option Value}
theorem X4 (X:K.In h) (G:h.Ns mainGlobals mg) (r:Raw K):∃ra,ShC K mg ra:=by
 obtain⟨a,ra,e,t,hl,hr⟩:=r.sh;refine⟨ra,⟨a,PySem.W.mg_of X G e,Lu t⟩,hl,fun i x p e1 e2=>?_⟩;have e3:E6[i]?=some [p.1,p.2]:=by
  have:E6=BF.k4.map fun p=>[p.1,p.2]:=by decide
  rw[this,aT,e2];rfl
 exact Lu (hr i x _ e1 e3)
set_option maxHeartbeats 0 in
theorem abn (w:World) (fa:Addr) (r:Raw K) (X:K.In h) (G:h.Ns mainGlobals mg) (Qc:mg "answers"=some (.ref fa)) :
  ∃fd:FuncData,(∀(s:Shared) (us:List Value),us.length=(["calls"]:List Str).length→BindsTo s fd ⟨us,[]⟩ ((["calls"]:List Str).zip us))∧∀base:Heap,K.In base→base.Ns mainGlobals mg→jA PySem.Challenge.rw_bitfloats_s01_answers.prog w K mg base Bo 13 fa fd ["calls"] (Me K):=by
 obtain⟨C,cE,⟨n1,n2,n3,n4,n5⟩,mE⟩:=r.ex;obtain⟨C2,ac⟩:=r.ac;obtain⟨C3,e3,q3⟩:=r.no;obtain⟨ra,hC⟩:=X4 X G r;have ak:Ev K mg C C2 C3:=⟨⟨h,X,G⟩,r,⟨⟨cE.cl,n1,n2,n3,n4,n5⟩,dW X G (r.iA 0 _ rfl),dW X G (r.iA 1 _ rfl),dW X G (r.iA 2 _ rfl),dW X G (r.iA 3 _ rfl),dW X G (r.iA 4 _ rfl),dW X G (r.iA 5 _ rfl),dW X G (r.iA 6 _ rfl),dW X G (r.iA 7 _ rfl),dW X G (r.iA 8 _ rfl),dW X G (r.iA 9 _ rfl),dW X G (r.iA 10 _ rfl),dW X G (r.iA 11 _ rfl),dW X G (r.iA 12 _ rfl),dW X G (r.iA 13 _ rfl),dW X G (r.iA 14 _ rfl),dW X G (r.iA 15 _ rfl),dW X G (r.iA 16 _ rfl),dW X G (r.iA 17 _ rfl),dW X G (r.iA 18 _ rfl),dW X G (r.iA 19 _ rfl),dW X G (r.iA 20 _ rfl),dW X G (r.iA 21 _ rfl),dW X G (r.iA 22 _ rfl),dW X G (r.iA 23 _ rfl),dW X G (r.iA 24 _ rfl),dW X G (r.iA 25 _ rfl),dW X G (r.iA 26 _ rfl),dW X G (r.iA 27 _ rfl),dW X G (r.iA 28 _ rfl),dW X G (r.iA 29 _ rfl),dW X G (r.iA 30 _ rfl),dW X G (r.iA 31 _ rfl),dW X G (r.iA 32 _ rfl),dW X G (r.iA 33 _ rfl),dW X G (r.iA 34 _ rfl),dW X G (r.iA 35 _ rfl),dW X G (r.iA 36 _ rfl),dW X G (r.iA 37 _ rfl),ve X G (r.F6 0 _ rfl),ve X G (r.F6 1 _ rfl),ve X G (r.F6 2 _ rfl),ve X G (r.F6 3 _ rfl),ve X G (r.F6 4 _ rfl),ve X G (r.F6 5 _ rfl),ve X G (r.F6 6 _ rfl),mR X G (r.oV 0 _ rfl),mR X G (r.oV 1 _ rfl),mR X G (r.oV 2 _ rfl),mR X G (r.oV 3 _ rfl),mR X G (r.oV 4 _ rfl),mR X G (r.oV 5 _ rfl),mR X G (r.oV 6 _ rfl),mR X G (r.oV 7 _ rfl),mR X G (r.oV 8 _ rfl),mR X G (r.oV 9 _ rfl),mR X G (r.oV 10 _ rfl)⟩,⟨cE,mE⟩,ac,⟨PySem.W.mg_of X G e3,q3⟩⟩;obtain⟨fa2,oc,od,an,nq,kV,doc,pm,bw,ct,a,l,c,k⟩:=r.defs 88 _ rfl;cases Qc.symm.trans (PySem.W.mg_of X G a);refine⟨PySem.W.fnOf "answers" "answers" (jB (top 145)) (gO (top 145)) (ay (top 145)) .none kV doc pm an bw ct,fun s us hu=>match us,hu with | [_],_=>.of_eq rfl,fun base _ _=>?_⟩;exact Mc ak (Ar l c k) hC
end
end G
open PySem PySem.W PyProof.Rows
theorem G.abo (K:aP) (H:L2.Hp) (xs:List L2.V) (a:Codec.denoteAll PySem.Challenge.rw_bitfloats_s01_answers.args) (hO:L2.xQ H) (Tr:Codec.withinAll PySem.Challenge.rw_bitfloats_s01_answers.args a=true) (Nf:Codec.app PySem.Challenge.rw_bitfloats_s01_answers.args PySem.Challenge.rw_bitfloats_s01_answers.asked a=true) (hx:L2.kL K H xs (Codec.encAll PySem.Challenge.rw_bitfloats_s01_answers.args a)) :
  G.Me K xs H (fun v H'=>L2.Dw K H' v (PySem.Challenge.rw_bitfloats_s01_answers.ret.enc (Codec.app PySem.Challenge.rw_bitfloats_s01_answers.args PySem.Challenge.rw_bitfloats_s01_answers.f a))) fun _ _ _=>False:=by
 cases hx with
 | cons h1 h2 =>
  cases h2;cases h1 with
  | lst hs ha =>
   have e:=L2.Ie a.1 _ ha;subst e;have q:((Codec.inLen 0 19000 a.1&&a.1.all (Codec.inInt (-9007199254740991) 9007199254740991))&&true)=true:=Tr;rw[b5,b5] at q;exact⟨_,a.1,rfl,hs,⟨Nf,bZ (Codec.inNat_iff.mp q.1.1).2 Ke⟩,fun g H' _ _ hp=>.lst (L2.bU.of hp) (L2.Ic _)⟩
set_option maxHeartbeats 0 in
theorem PySem.Challenge.cw_bitfloats_s01_answers_holds : PySem.Challenge.rw_bitfloats_s01_answers.Holds := by
 obtain⟨as,e,hl⟩:=G.left;refine G.use hl rfl rfl rfl G.ok ?_;refine L2.Ij (r:=PySem.Challenge.rw_bitfloats_s01_answers) (k:=13) (CX:=L2.Bo) (ps:=["calls"]) (sp:=G.Me) G.ws rfl rfl ⟨rfl,Ke,Ke⟩ (fun w h Y=>PySem.W.kIn_of Y) ?F G.abo (fun _ _ _ _ z=>z)
 case F =>
  intro w mg fa h Y KX GG Qc;refine G.abn w fa ?_ KX GG Qc;refine⟨?defs,?iA,?F6,?oV,?ex,?ac,?no,?sh⟩
  case defs =>
   unfold G.KP
   repeat (refine G.g6 ?_ ?_;(· refine' G.Ts ?a ?l ?c ?k;(case a=>k_is);(case l=>k_is);(case c=>k_is);(case k=>k_is)))
   exact G.sX
  case iA =>
   unfold G.Qh
   repeat (refine G.g6 ?_ ?_;(· refine' G.Tt ?a;(case a=>k_is)))
   exact G.sX
  case F6 =>
   unfold G.Qi;refine G.g6 ?_ ?_
   ·refine' G.qe ?a ?l ?c ?d ?s ?v;(case a=>k_is);(case l=>k_is);(case c=>rfl);(case d=>rfl);(case s=>show 4≤sizeLine;decide);(case v=>exact .cons ⟨_,rfl⟩ (.cons ⟨_,rfl⟩ (.cons ⟨_,rfl⟩ (.cons ⟨_,rfl⟩ (.nil)))))
   refine G.g6 ?_ ?_
   ·refine' G.qe ?a ?l ?c ?d ?s ?v;(case a=>k_is);(case l=>k_is);(case c=>rfl);(case d=>rfl);(case s=>show 4≤sizeLine;decide);(case v=>exact .cons ⟨_,rfl⟩ (.cons ⟨_,rfl⟩ (.cons ⟨_,rfl⟩ (.cons ⟨_,rfl⟩ (.nil)))))
   refine G.g6 ?_ ?_
   ·refine' G.qe ?a ?l ?c ?d ?s ?v;(case a=>k_is);(case l=>k_is);(case c=>rfl);(case d=>rfl);(case s=>show 14≤sizeLine;decide);(case v=>exact .cons ⟨_,rfl⟩ (.cons ⟨_,rfl⟩ (.cons ⟨_,rfl⟩ (.cons ⟨_,rfl⟩ (.cons ⟨_,rfl⟩ (.cons ⟨_,rfl⟩ (.cons ⟨_,rfl⟩ (.cons ⟨_,rfl⟩ (.cons ⟨_,rfl⟩ (.cons ⟨_,rfl⟩ (.cons ⟨_,rfl⟩ (.cons ⟨_,rfl⟩ (.cons ⟨_,rfl⟩ (.cons ⟨_,rfl⟩ (.nil)))))))))))))))
   refine G.g6 ?_ ?_
   ·refine' G.qe ?a ?l ?c ?d ?s ?v;(case a=>k_is);(case l=>k_is);(case c=>rfl);(case d=>rfl);(case s=>show 12≤sizeLine;decide);(case v=>exact .cons ⟨_,rfl⟩ (.cons ⟨_,rfl⟩ (.cons ⟨_,rfl⟩ (.cons ⟨_,rfl⟩ (.cons ⟨_,rfl⟩ (.cons ⟨_,rfl⟩ (.cons ⟨_,rfl⟩ (.cons ⟨_,rfl⟩ (.cons ⟨_,rfl⟩ (.cons ⟨_,rfl⟩ (.cons ⟨_,rfl⟩ (.cons ⟨_,rfl⟩ (.nil)))))))))))))
   refine G.g6 ?_ ?_
   ·refine' G.qe ?a ?l ?c ?d ?s ?v;(case a=>k_is);(case l=>k_is);(case c=>rfl);(case d=>rfl);(case s=>show 9≤sizeLine;decide);(case v=>exact .cons ⟨_,rfl⟩ (.cons ⟨_,rfl⟩ (.cons ⟨_,rfl⟩ (.cons ⟨_,rfl⟩ (.cons ⟨_,rfl⟩ (.cons ⟨_,rfl⟩ (.cons ⟨_,rfl⟩ (.cons ⟨_,rfl⟩ (.cons ⟨_,rfl⟩ (.nil))))))))))
   refine G.g6 ?_ ?_
   ·refine' G.qe ?a ?l ?c ?d ?s ?v;(case a=>k_is);(case l=>k_is);(case c=>rfl);(case d=>rfl);(case s=>show 8≤sizeLine;decide);(case v=>exact .cons ⟨_,rfl⟩ (.cons ⟨_,rfl⟩ (.cons ⟨_,rfl⟩ (.cons ⟨_,rfl⟩ (.cons ⟨_,rfl⟩ (.cons ⟨_,rfl⟩ (.cons ⟨_,rfl⟩ (.cons ⟨_,rfl⟩ (.nil)))))))))
   refine G.g6 ?_ ?_
   ·refine' G.qe ?a ?l ?c ?d ?s ?v;(case a=>k_is);(case l=>k_is);(case c=>rfl);(case d=>rfl);(case s=>show 4≤sizeLine;decide);(case v=>exact .cons ⟨_,rfl⟩ (.cons ⟨_,rfl⟩ (.cons ⟨_,rfl⟩ (.cons ⟨_,rfl⟩ (.nil)))))
   exact G.sX
  case oV =>
   unfold G.VA
   repeat (refine G.g6 ?_ ?_;(· show nsIn _ _ _=_;k_is))
   exact G.sX
  case ex =>
   refine' G.Mw ?aC ⟨?pg,?hd,?po,?sa⟩ ?mk ?kp ⟨⟨?n1,?n2,?n3,?n4,?n5⟩,G.v5 ?a ?i ?l ?c ?k⟩
   (case aC=>k_is);(case pg=>k_is);(case hd=>k_is);(case po=>k_is);(case sa=>k_is);(case mk=>k_is);(case kp=>k_is)
   case n1=>show findIn _ _ _=_;k_is
   case n2=>show findIn _ _ _=_;k_is
   case n3=>show findIn _ _ _=_;k_is
   case n4=>show findIn _ _ _=_;k_is
   case n5=>show findIn _ _ _=_;k_is
   (case a=>k_is);(case i=>k_is);(case l=>k_is);(case c=>k_is);(case k=>k_is)
  case ac =>
   refine' G.Mw ?aC ⟨?pg,?hd,?po,?sa⟩ ?mk ?kp ⟨?n1,?m0,?m1,?m2,?m3⟩
   (case aC=>k_is);(case pg=>k_is);(case hd=>k_is);(case po=>k_is);(case sa=>k_is);(case mk=>k_is);(case kp=>k_is)
   case n1=>show findIn _ _ _=_;k_is
   case m0=>refine' G.v5 ?a ?i ?l ?c ?k;(case a=>k_is);(case i=>k_is);(case l=>k_is);(case c=>k_is);(case k=>k_is)
   case m1=>refine' G.v5 ?a ?i ?l ?c ?k;(case a=>k_is);(case i=>k_is);(case l=>k_is);(case c=>k_is);(case k=>k_is)
   case m2=>refine' G.v5 ?a ?i ?l ?c ?k;(case a=>k_is);(case i=>k_is);(case l=>k_is);(case c=>k_is);(case k=>k_is)
   case m3=>refine' G.v5 ?a ?i ?l ?c ?k;(case a=>k_is);(case i=>k_is);(case l=>k_is);(case c=>k_is);(case k=>k_is)
  case no =>
   refine' G.Tv ?aC ?q
   (case aC=>k_is)
   (case q=>kernel_rfl)
  case sh =>
   refine' G.Tw ?a ?l ?c ?d ?s ?v ?r
   (case a=>k_is);(case l=>k_is);(case c=>rfl);(case d=>rfl);(case s=>show 15≤sizeLine;decide);(case v=>exact .cons rfl (.cons rfl (.cons rfl (.cons rfl (.cons rfl (.cons rfl (.cons rfl (.cons rfl (.cons rfl (.cons rfl (.cons rfl (.cons rfl (.cons rfl (.cons rfl (.cons rfl (.nil))))))))))))))))
   case r =>
    unfold G.E6
    repeat (refine G.NJ ?_ ?_;(· refine' G.Tu ?l ?c ?d ?s ?v;(case l=>k_is);(case c=>rfl);(case d=>rfl);(case s=>show 2≤sizeLine;decide);(case v=>exact .cons ⟨_,rfl⟩ (.cons ⟨_,rfl⟩ .nil))))
    exact G.Ql

