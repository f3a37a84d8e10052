import PyProof.Rows.All
import OpenK.KLine
import OpenK.KOwn
import KE.OsHead
import KE.KFromBytes
import KE.KStateDown
import PyFlat
import KE.BitLaws
import KE.KTurns
import KE.KRevIter
import Open.SpecLaws
import KE.KTypeOf
import PySem.Challenge.RW_bitfloats_s01_answers
set_option Elab.async false
set_option linter.all false
set_option maxRecDepth 100000
set_option compiler.extract_closed false
theorem J9 {p:Prop} (h:p:=by decide):p:=h
theorem Kf {p:Prop} (h:p:=by omega):p:=h
def ag:=@if_neg
def ao:=@if_pos
def aA:=@Int.eq_ofNat_of_zero_le
def aF:=@List.length_map
def aJ:=@if_true
def aM:=@if_false
def aN:=@Int.toNat_natCast
def aO:=@Bool.false_eq_true
def aT:=@List.getElem?_map
def aV:=@Bool.not_eq_true
def a7:=@congrArg
def bh:=@Rat.intCast_mul
def bj:=@decide_eq_true_iff
def bo:=@Int.le_of_lt
def bu:=@Rat.intCast_natCast
def bB:=@Nat.le_refl
def bF:=@Rat.zero_mul
def bI:=@List.getElem?_eq_getElem
def bM:=@Option.some.inj
def bQ:=@Rat.div_def
def bR:=@Bool.or_eq_true
def bS:=@decide_eq_false
def bV:=@Rat.mul_assoc
def bZ:=@Nat.le_trans
def b5:=@Nat.lt_of_lt_of_le
def cg:=@List.size_toArray
def cz:=@Rat.le_of_lt
def cC:=@Rat.mul_one
def cI:=@Bool.and_eq_true
def cJ:=@Int.natCast_add
def cN:=@List.length_cons
def cO:=@List.mem_cons
def cT:=@List.length_append
def cV:=@Nat.two_pow_pos
def dc:=@Int.one_mul
def du:=@decide_eq_true
def dv:=@List.mem_cons_of_mem
def dA:=@Bool.false_ne_true
def dE:=@beq_iff_eq
def dG:=@decide_eq_true_eq
def dH:=@Rat.intCast_add
def dI:=@Nat.ne_of_lt
def dP:=@Rat.natCast_le_natCast
def dY:=@Rat.not_lt
def et:=@List.length_drop
def eC:=@Nat.pow_add
def eD:=@Rat.natCast_mul
def eF:=@Nat.mul_comm
def eO:=@List.getElem?_eq_none
def eR:=@Int.natCast_mul
def eS:=@Bool.or_self
def eU:=@of_decide_eq_true
def eW:=@Rat.intCast_pos
def e9:=@Rat.mul_comm
def fb:=@Nat.pow_le_pow_right
def fz:=@Int.toNat_of_nonneg
def fA:=@List.mem_cons_self
def fC:=@Rat.mul_pos
def fE:=@Int.mul_nonneg
def fG:=@Nat.mod_lt
def fJ:=@Bool.true_and
def fK:=@Int.natCast_nonneg
def fM:=@List.length_take
def fR:=@Bool.not_false
def fS:=@List.getElem_mem
def fT:=@List.map_cons
def fV:=@List.append_nil
def f7:=@Int.ediv_nonneg
def gu:=@Rat.mul_le_mul_of_nonneg_left
def gy:=@Int.pow_succ
def gD:=@Nat.div_add_mod
def gW:=@Nat.pow_succ
def g9:=@List.getElem?_eq_some_iff
def ib:=@Bool.false_and
def iA:=@Nat.zero_le
def iF:=@Rat.intCast_neg
def iJ:=@Int.mul_comm
def iM:=@Rat.div_lt_iff
def iV:=@Int.ofNat_le
def i4:=@Int.mul_le_mul_of_nonneg_right
def i5:=@Int.ofNat.inj
def i6:=@Nat.lt_irrefl
def jf:=@Rat.one_mul
def jg:=@Rat.mul_eq_zero
def ji:=@Int.pow_add
def js:=@List.map_map
def ju:=@List.mem_map
def jw:=@Int.ne_of_gt
def jx:=@Rat.intCast_eq_zero_iff
def jF:=@Rat.mul_le_mul_of_nonneg_right
def j1:=@Int.ofNat_lt
def j4:=@List.ext_getElem?
def j6:=@Bool.and_eq_true_iff
def j7:=@Ne.symm
def ke:=@List.mem_append_right
def kh:=@Bool.eq_iff_iff
def kG:=@List.append_assoc
def kZ:=@Nat.add_comm
def k7:=@decide_false
def lz:=@Nat.add_sub_cancel
def lA:=@Int.add_mul
def lD:=@Nat.zero_add
def lI:=@Int.lt_trans
def lJ:=@Bool.false_or
def lM:=@of_decide_eq_false
def me:=@List.drop_drop
def mh:=@Int.ediv_le_self
def mr:=@Nat.min_eq_left
def mw:=@Nat.le_of_lt
def my:=@List.replicate_succ
def m7:=@List.take_of_length_le
def nj:=@List.lookup_cons
def nq:=@List.all_eq_true
def nr:=@Rat.intCast_sub
def nB:=@Rat.neg_neg
def nD:=@Rat.zpow_natCast
def nH:=@Int.sub_mul
def oE:=@Int.le_refl
def oF:=@List.getElem?_range
def oG:=@List.isEmpty_iff
def oH:=@List.map_take
def oK:=@List.map_drop
def oM:=@List.mem_range
def oN:=@List.filterMap_cons
def pJ:=@List.mem_append
def pK:=@Int.emod_nonneg
def pL:=@Rat.add_mul
def pM:=@Rat.mul_nonneg
def pN:=@Nat.one_le_two_pow
def pP:=@Rat.inv_eq_of_mul_eq_one
def pS:=@Int.mul_pos
def qB:=@Int.mul_le_mul_of_nonneg_left
def qQ:=@Decidable.byContradiction
def qR:=@Rat.neg_mul
def qW:=@Nat.mod_eq_of_lt
def qX:=@Int.lt_of_le_of_lt
def qZ:=@Rat.natCast_pos
def rg:=@List.length_range
def rj:=@Option.map_some
def sC:=@Nat.succ.inj
def sO:=@List.takeWhile_cons
def sQ:=@List.take_succ
def tM:=@decide_eq_decide
def tO:=@List.take_length
def tP:=@Int.le_trans
def tQ:=@beq_eq_false_iff_ne
def tR:=@PyProof.Rows.callWith_type1
def tV:=@List.of_mem_zip
def ue:=@List.getElem?_append_right
def uf:=@List.getElem?_append_left
def uk:=@List.mem_of_getElem?
def uo:=@List.flatten_cons
def uA:=@Bool.and_false
def uC:=@List.all_cons
def uF:=@Nat.le_add_right
def uT:=@Int.mul_ediv_add_emod
def ve:=@Rat.div_mul_cancel
def vy:=@Bool.not_true
def vz:=@Nat.pos_of_ne_zero
def vJ:=@Nat.lt_log2_self
def vW:=@Nat.mul_le_mul_right
def vY:=@Nat.add_mul
def we:=@Nat.mul_assoc
def xA:=@Rat.natCast_add
def xB:=@Int.lt_iff_le_and_ne
def xC:=@List.foldl_append
def xD:=@Bool.not_eq_true'
def xE:=@List.map_congr_left
def xF:=@List.drop_zero
def xG:=@List.drop_eq_nil_of_le
def xP:=@Option.toList_some
def yE:=@Option.bind_some
def yF:=@List.map_append
def yG:=@Nat.le_of_ble_eq_true
def yN:=@List.mem_append_left
def yP:=@Array.length_toList
def zm:=@Nat.le_of_eq
def zo:=@List.nodup_cons
def zq:=@Nat.le_of_succ_le
def zr:=@Rat.le_floor_iff
def zt:=@Rat.mul_lt_mul_right
def Af:=@Rat.le_refl
def Ah:=@Nat.log2_self_le
def Ai:=@Rat.natCast_lt_natCast
def Ak:=@Int.pow_pos
def Al:=@Int.natCast_sub
def Bc:=@Rat.le_trans
def Bn:=@Rat.inv_mul_rev
def Cp:=@decide_true
def DD:=@Nat.div_eq_of_lt
def DE:=@Nat.mul_lt_mul_of_pos_right
def DF:=@Nat.mul_le_mul
def DG:=@Bool.and_self
def DH:=@Rat.natCast_nonneg
def DI:=@Nat.le_of_not_lt
def DK:=@Int.mul_assoc
def DL:=@List.take_zero
def DM:=@UInt8.toNat_ofNat'
def DN:=@Nat.pow_mul
def DR:=@List.length_zip
def DS:=@Nat.min_eq_right
def DV:=@List.drop_succ_cons
def El:=@List.getElem?_set_self
def En:=@List.getElem?_set_ne
def Ep:=@List.mem_filterMap
def EH:=@Int.fdiv_eq_ediv_of_nonneg
def EK:=@Nat.lt_succ_self
def EN:=@List.getElem?_replicate
def EX:=@PyProof.Rows.slot_tuple_getitem
def Fb:=@List.length_set
def Fm:=@List.range_succ_eq_map
def Fv:=@Nat.lt_succ_of_lt
def FO:=@Rat.floor_lt_iff
def FP:=@Int.emod_lt_of_pos
def F5:=@Rat.mul_inv_cancel
def Gk:=@Rat.intCast_nonneg
def GZ:=@Rat.natCast_pow
def Hc:=@Rat.num_nonneg
def Hd:=@Rat.mkRat_eq_div
def He:=@Rat.mkRat_self
def Hf:=@Rat.natCast_eq_zero_iff
def Hg:=@Rat.lt_div_iff
def Hh:=@Nat.div_lt_of_lt_mul
def Hj:=@Nat.add_div_right
def Hk:=@Nat.add_mod_right
def Hq:=@Int.emod_eq_of_lt
def Hs:=@Nat.mul_le_mul_left
def Hu:=@Bool.or_false
def Hw:=@Rat.natCast_inj
def HD:=@List.length_eq_zero_iff
def HR:=@List.mem_of_mem_take
def Ib:=@List.take_append_drop
def IB:=@List.cons_append
def IM:=@Bool.not_eq_false
def IP:=@List.drop_eq_getElem_cons
def JT:=@List.drop_left
def JU:=@Int.natAbs_mul
def JV:=@Int.natAbs_pow
def JW:=@Int.natCast_ediv
def JX:=@Nat.div_le_self
def JY:=@Int.natAbs_natCast
def JZ:=@List.getElem?_zip_eq_some
def J1:=@Int.natCast_one
def J2:=@Rat.le_of_mul_le_mul_right
def J3:=@Rat.mul_lt_mul_of_pos_left
def J4:=@decide_eq_false_iff_not
def J7:=@Nat.succ_pred_eq_of_pos
def J8:=@Nat.mul_lt_mul_of_lt_of_le
local macro_rules | `(tactic| omega)=>`(tactic| lia)
namespace PySem.W.Fast
def tw3203603314958562996:=0
def tw171709050029965103:=0
def tw10721422261641134885:=0
def tw9481694261540318879:=0
def tw17980165106425036503:=0
def tw12300353878692657165:=0
def tw4192458080138339281:=0
def tw10212124901104624846:=0
def tw1603693878522311429:=0
def tw15376212466034926858:=0
def tw7935512588689353308:=0
def tw2947780053272617180:=0
def tw9619955581798564588:=0
def tw14621931072559188682:=0
def tw2330497207733343080:=0
def tw796408490310512710:=0
def tw15541379886150830164:=0
def tw6723067025971127663:=0
def tw2789881043192008257:=0
def tw2282137409792891266:=0
def tw257445802628198980:=0
def tw10373489027037935588:=0
def tw4344930694172150021:=0
def tw196264045789465894:=0
def tw4015410677059530952:=0
def tw7976166728889862604:=0
def tw5107356915981680205:=0
def tw7458660171509777389:=0
def tw15368889692631105934:=0
def tw1295189513539283665:=0
def tw12761936551809949273:=0
def tw5979555860064583545:=0
def tw7528342345477568454:=0
def tw12672603126399383317:=0
def tw9493870922235323442:=0
def tw16296479695914354161:=0
def tw9178862320869912922:=0
def tw1109783177853020580:=0
def tw9595908444370399511:=0
def tw5266667590600143712:=0
def tw228685974876071496:=0
def tw17242521198670464345:=0
def tw4209485107503018313:=0
def tw17388367433444265990:=0
def tw9220938166134470435:=0
def tw14901877140466004701:=0
def tw12174744006126479098:=0
def tw14936405702005174761:=0
def tw4005486459982646510:=0
def tw10243378661412755963:=0
def tw5725519613471921936:=0
def tw3328122213609583203:=0
def tw14343874093505254825:=0
def tw12527686982003810923:=0
def tw4227376433437735437:=0
def tw14282825363957362779:=0
def tw11256922281459138316:=0
def tw14239034548205336799:=0
def tw18193371088237670836:=0
def tw9654848595912135411:=0
def tw16349751798446538271:=0
def tw7384630875536039357:=0
def tw3025158122778088880:=0
def tw1309847695669512913:=0
def tw3524008209610735484:=0
def tw9268121311574488574:=0
def tw10040787722370355390:=0
def tw13072887457274022896:=0
def tw6449162917208666232:=0
def tw8835403758584974923:=0
def tw1010155891557745885:=0
def tw15970168415030850503:=0
def tw12939490237724559854:=0
def tw5628663934742812632:=0
def tw18318935814039081162:=0
def tw9996559147349086904:=0
def tw17179607091879389575:=0
def tw9832687080407139678:=0
def tw1464355760516697031:=0
def tw17705268793438788098:=0
def tw3802792607904541220:=0
def tw15636057219907060207:=0
def tw4043095371242056192:=0
def tw7884459748330200043:=0
def tw4678247071392573297:=0
def tw10485410666513908584:=0
def tw7873729941382520929:=0
def tw13403222660821810975:=0
def tw18071620998276885336:=0
def tw18429562628191141141:=0
def tw15305976986907687444:=0
def tw11703163054443431652:=0
def tw2224820541864107375:=0
def tw16920606830814600755:=0
def tw1931839182648211616:=0
def tw5575345220168094431:=0
def tw12179148474772448351:=0
def tw14057687537774452260:=0
def tw15864429936059011301:=0
def tw12099204525571788303:=0
def tw6185067090005030873:=0
def tw15431810143080647605:=0
def tw1881577393645286494:=0
def tw14343101380513109711:=0
def tw4278340887997361688:=0
def tw1542379214379276042:=0
def tw2783085673182414145:=0
def tw15785288840867215491:=0
def tw640902590735826034:=0
def tw11353602510597884689:=0
def tw6887107656831377252:=0
def tw13505974548707908852:=0
def tw962832370835661470:=0
def tw6143713157066552532:=0
def tw13200645456230713869:=0
def tw3122960838812552073:=0
def tw17443156392637249015:=0
def tw1380365410574786333:=0
def tw2126036214727991018:=0
def tw7309342444317058296:=0
def tw16572870144212623393:=0
def tw2756659397587129737:=0
def tw12916321890608742362:=0
def tw11776516893279138770:=0
def tw7155473542133349718:=0
def tw7426112869045212527:=0
def tw13324128858778519498:=0
def tw6364681072634592000:=0
def tw3415262576401969920:=0
def tw6123779329271863702:=0
def tw8581321673993540606:=0
def tw7791514840135648496:=0
def tw11167225863930974588:=0
def tw7972073622863585126:=0
def tw1736812124749817172:=0
def tw5673056952755146326:=0
def tw10926653131285704332:=0
def tw5594816118167409119:=0
def tw8027789970708503887:=0
def tw4468190808899366216:=0
def tw572831048127792221:=0
def tw10183851759746469995:=0
def tw5126836429084802622:=0
def tw12161216603454754838:=0
def tw14718517246865510009:=0
def tw10336295556232695943:=0
def tw8209602484131025442:=0
def tw15438636509543071271:=0
def tw3721385285596786183:=0
def tw6992754820759074617:=0
def tw6654771726329130183:=0
def tw4332156495133476936:=0
def tw14478005976388797943:=0
def tw10017382652710222804:=0
def tw2453510973620461120:=0
def tw9599541369027578402:=0
def tw12296979485757508918:=0
def tw13040748503896490861:=0
def tw9750147993669447523:=0
def tw8694623351382929936:=0
def tw4224044536307840777:=0
def tw9733695520281087402:=0
def tw14799083394150331751:=0
def tw8407411725765600471:=0
def tw5263000955566313100:=0
def tw9426586064360056744:=0
def tw9545912894499489077:=0
def tw7436482072256945382:=0
def tw17007262739279319545:=0
def tw2952500930794446927:=0
def tw11279383750704254587:=0
def tw11082225817338493109:=0
def tw9636658431277117277:=0
def tw14957649572911000202:=0
def tw3141615428141326474:=0
def tw817678445638636212:=0
def tw15751299430877227902:=0
def tw10407191370551789930:=0
def tw18121276647601434729:=0
def tw7241395819610825667:=0
def tw5551101128362636938:=0
def tw3549228445192614279:=0
def tw17694257472421074060:=0
def tw11965387120771427134:=0
def tw1154653871030734024:=0
def tw1277656401670130092:=0
def tw12351535583589927630:=0
def tw4523060979509937062:=0
def tw16044420124295349057:=0
def tw6082933245982810353:=0
def tw1558548665556340655:=0
def tw14372002366475716546:=0
def tw2262297737178524845:=0
def tw8427074455202958030:=0
def tw2866921969585254748:=0
def tw5147727266543756411:=0
def tw7155146381931521402:=0
def tw1602716246118684294:=0
def tw6931142256977237085:=0
def tw5987243246117958164:=0
def tw10251860363281531985:=0
def tw9085209935983291649:=0
def tw130234186825866456:=0
def tw9440112437250266485:=0
def tw5683312979000238639:=0
def tw4262577177805350605:=0
def tw1689044009791464204:=0
def tw7960237014368883644:=0
def tw17327493226994130444:=0
def tw11812903730688820788:=0
def tw13462325247608805338:=0
def tw2021520601600142063:=0
def tw8453859483558849974:=0
def tw1233949955782447067:=0
def tw3432468784214618904:=0
def tw3893712357559323729:=0
def tw2461838133355058441:=0
def tw14283760904764231813:=0
def tw16395230598510172177:=0
def tw8637713799738032986:=0
def tw6780533818545158390:=0
def tw15399344098596837156:=0
def tw12925113818706086425:=0
def tw13132678056832578252:=0
def tw13216088682765883211:=0
def tw15477529647704041321:=0
def tw16593699433947568661:=0
def tw12901507995271201957:=0
def tw17769434604258794677:=0
def tw13940004180541775286:=0
def tw6212718552722565766:=0
def tw14996695262291215387:=0
def tw16855459617074341962:=0
def tw15187823548838158540:=0
end PySem.W.Fast
section
open PySem PySem.W PyProof.Rows
set_option maxHeartbeats 0
def G.r1:OpenRow:={ prog:=PySem.Challenge.rw_bitfloats_s01_answers.prog,name:="answers",records:=[],args:=[.list .int],returns:=.any,pre:=.lit (.bool true),post:=.lit (.bool true),raises:=[],mutates:=[],within:=[],unshared:=false,same:=none,under:=⟨true,true,true⟩,after:=⟨true,true,true⟩,apart:=false,loose:=[],pinned:=true,writes:=false }
open_top G.hd for G.r1
theorem G.left:∃(as:List Addr) (e:∀P,as=(G.hd.heap_1 P).map (·.1)),LeftO PySem.Challenge.rw_bitfloats_s01_answers.prog G.hd.view_1 [] (fun s=>xlAt G.hd.view_1 [] s&&recOk [] s) (Hook.obs (kHook G.hd.heap_1 as e)) (Hook.val (kHook G.hd.heap_1 as e)) 9806:=by
 have h:=LeftO.of_pieces (q:=G.hd.view_1) (loose:=[]) (N:=9806) (g0:=true) (Xt:=fun s=>xlAt G.hd.view_1 [] s&&recOk [] s) (boot_open (N:=9806) G.hd._proof_4 J9 G.hd._proof_5) G.hd._proof_903 G.hd._proof_901 J9 (fun w=>funext fun os=>G.hd._proof_934 w os);exact⟨_,_,h⟩
theorem G.ok:(chainsOk G.hd.view_1&&opensWell PySem.Challenge.rw_bitfloats_s01_answers.prog)=true:=by decide +kernel
theorem G.Vc:∃d Na,defOf G.hd.view_1 PySem.Challenge.rw_bitfloats_s01_answers.name=some (d,Na)∧PySem.Challenge.rw_bitfloats_s01_answers.prog.theDef PySem.Challenge.rw_bitfloats_s01_answers.name=some (d.params,d.body,d.scope)∧kwWritten? d.params.kwonlyargs d.params.kw_defaults=some Na:=⟨_,_,rfl,rfl,rfl⟩
set_option maxHeartbeats 0 in
theorem G.use {q:Program} {K:Params→PySem.W.Frag} {as:List Addr} {e:∀P,as=(K P).map (·.1)} {N:Nat} {d:DefRec} {Na:List (Str×Expr)}
  (hl:LeftO PySem.Challenge.rw_bitfloats_s01_answers.prog q [] (fun s=>xlAt q [] s&&recOk [] s) (Hook.obs (kHook K as e)) (Hook.val (kHook K as e)) N)
  (Vc:defOf q PySem.Challenge.rw_bitfloats_s01_answers.name=some (d,Na)) (hp:PySem.Challenge.rw_bitfloats_s01_answers.prog.theDef PySem.Challenge.rw_bitfloats_s01_answers.name=some (d.params,d.body,d.scope)) (hk:kwWritten? d.params.kwonlyargs d.params.kw_defaults=some Na)
  (ok:(chainsOk q&&opensWell PySem.Challenge.rw_bitfloats_s01_answers.prog)=true)
  (call:WalkOS q [] (XL q []) (Hook.says (kHook K as e)) PySem.Challenge.rw_bitfloats_s01_answers d Na fun f vs=>PySem.call f vs):PySem.Challenge.rw_bitfloats_s01_answers.Holds:=by
 refine holds_os (q:=q) (loose:=[]) (Xt:=fun s=>xlAt q [] s&&recOk [] s) (XP:=XL q []) (Yf:=Hook.obs (kHook K as e)) (Ya:=Hook.val (kHook K as e)) (YP:=Hook.says (kHook K as e)) (N:=N) hl (Hook.of (kHook K as e)) (Hook.keeps (kHook K as e)) (fun s e=>xl_of s (j6.mp e).1) XL.keeps Vc hp hk (fun s e=>recFacts_of (j6.mp e).2) os_shapes ?a ok ?b ?c call
 case a=>decide +kernel
 case b=>exact⟨rfl,rfl,rfl,rfl,rfl,by decide +kernel⟩
 case c=>exact⟨[.list [.int 8]],by decide +kernel,by decide +kernel⟩
end

abbrev aP:=PySem.W.Frag
section
namespace L2
open PySem PySem.Spec PyProof.Rows
abbrev Key:=Sum Int Str
def Pb:Key→Value→Bool
 | .inl k,v=>Value.isInt k v
 | .inr x,v=>Value.isStrOf x v
def Yh (w:World):Key→Int
 | .inl k=>hashInt k
 | .inr x=>hashStr w x
theorem gm:∀{k:Key} {v:Value},Pb k v=true→(∃i t,k=Sum.inl i∧v=Value.int i t)∨(∃x t,k=Sum.inr x∧v=Value.str x t)
 | .inl i,v,h=>by
  obtain⟨t,e⟩:=Value.isInt_shape (k:=i) (v:=v) h;exact .inl ⟨i,t,rfl,e⟩
 | .inr x,v,h=>by
  obtain⟨t,e⟩:=Value.isStrOf_shape (x:=x) (v:=v) h;exact .inr ⟨x,t,rfl,e⟩
theorem So (a b:Int):decide ((Sum.inl a:Key)=Sum.inl b)=(a==b):=by
 by_cases e:a=b
 ·subst e;simp
 ·have h:¬(Sum.inl a:Key)=Sum.inl b:=fun q=>e (Sum.inl.inj q);rw[bS h];exact(tQ.mpr e).symm
theorem Sq (a b:Str):decide ((Sum.inr a:Key)=Sum.inr b)=decide (a=b):=by
 by_cases e:a=b
 ·subst e;simp
 ·have h:¬(Sum.inr a:Key)=Sum.inr b:=fun q=>e (Sum.inr.inj q);rw[bS h,bS e]
theorem Sr (a:Int) (b:Str):decide ((Sum.inl a:Key)=Sum.inr b)=false:=bS (fun q=>nomatch q)
theorem Ss (a:Str) (b:Int):decide ((Sum.inr a:Key)=Sum.inl b)=false:=bS (fun q=>nomatch q)
def Pc (prog:Program) (w:World):PySem.KeyKind prog w Key where
 is:=Pb
 hash:=Yh w
 inj:=fun v a b ha hb=>by
  rcases gm ha with ⟨i,t,rfl,rfl⟩ | ⟨x,t,rfl,rfl⟩
  ·rcases gm hb with ⟨j,u,rfl,e⟩ | ⟨y,u,rfl,e⟩
   ·injection e with e1 _;rw[e1]
   ·exact nomatch e
  ·rcases gm hb with ⟨j,u,rfl,e⟩ | ⟨y,u,rfl,e⟩
   ·exact nomatch e
   ·injection e with e1 _;rw[e1]
 byValue:=fun k v h=>by
  rcases gm h with ⟨i,t,rfl,rfl⟩ | ⟨x,t,rfl,rfl⟩<;>rfl
 pyHash:=fun hv h=>by
  rcases gm hv with ⟨i,t,rfl,rfl⟩ | ⟨x,t,rfl,rfl⟩
  ·exact wpAny_pyHash_int h
  ·exact wpAny_pyHash_str h
 eqBool:=fun hu hv h=>by
  rcases gm hu with ⟨i,t,rfl,rfl⟩ | ⟨x,t,rfl,rfl⟩
  ·rcases gm hv with ⟨j,u,rfl,rfl⟩ | ⟨y,u,rfl,rfl⟩
   ·rw[So] at h;exact wpAny_eqBool_int h
   ·rw[Sr] at h;exact SeqAt.EqAt.int_str i t y u _ _ _ _ h
  ·rcases gm hv with ⟨j,u,rfl,rfl⟩ | ⟨y,u,rfl,rfl⟩
   ·rw[Ss] at h;exact SeqAt.EqAt.str_int x t j u _ _ _ _ h
   ·rw[Sq] at h;exact wpAny_eqBool_str h
 «strs»:=fun k x t v h=>by
  rcases gm h with ⟨i,u,rfl,e⟩ | ⟨y,u,rfl,e⟩
  ·exact nomatch e
  ·injection e with e1 _
   subst e1;cases v<;>rfl
end L2
namespace L2
open PySem PySem.Spec PyProof.Rows
inductive V where
 | fU | bl (b:Bool) | int (i:Int) | str (x:Str) | tN (b:Array UInt8) | Su (b:UInt64) | ref (a:Addr) | ty (n:String)
 deriving DecidableEq
def RelV:V→Value→Prop
 | .fU,u=>u=Value.none
 | .bl b,u=>u=Value.bool b
 | .int i,u=>∃t,u=Value.int i t
 | .str x,u=>∃t,u=Value.str x t
 | .tN b,u=>∃t,u=Value.bytes b t
 | .Su b,u=>∃t,u=Value.float b t
 | .ref a,u=>u=Value.ref a
 | .ty n,u=>u=Value.type n
abbrev Vals:List V→List Value→Prop:=Paired RelV
theorem Vals.length {xs:List V} {us:List Value} (r:Vals xs us):xs.length=us.length:=Paired.length r
theorem Vals.get:∀{xs:List V} {us:List Value} {i:Nat} {x:V},Vals xs us→xs[i]?=some x→∃u,us[i]?=some u∧RelV x u
 | _,_,_,_,.nil,e=>by simp at e
 | _,_,0,_,.cons r _,e=>by simp at e;subst e;exact⟨_,rfl,r⟩
 | _,_,i+1,x,.cons _ t,e=>by
  obtain⟨u,h1,h2⟩:=Vals.get (i:=i) (x:=x) t (by simpa using e);exact⟨u,by simpa using h1,h2⟩
theorem Vals.set {x:V} {u:Value} (r:RelV x u):∀{xs:List V} {us:List Value} (i:Nat),Vals xs us→Vals (xs.set i x) (us.set i u)
 | _,_,_,.nil=>.nil
 | _,_,0,.cons _ t=>.cons r t
 | _,_,i+1,.cons q t=>.cons q (Vals.set r i t)
theorem Vals.append:∀{xs ys:List V} {us ws:List Value},Vals xs us→Vals ys ws→Vals (xs++ys) (us++ws)
 | _,_,_,_,.nil,s=>s
 | _,_,_,_,.cons r t,s=>.cons r (Vals.append t s)
theorem Vals.take:∀{xs:List V} {us:List Value} (n:Nat),Vals xs us→Vals (xs.take n) (us.take n)
 | _,_,0,_=>.nil
 | _,_,_+1,.nil=>.nil
 | _,_,n+1,.cons r t=>.cons r (Vals.take n t)
theorem Vals.drop:∀{xs:List V} {us:List Value} (n:Nat),Vals xs us→Vals (xs.drop n) (us.drop n)
 | _,_,0,r=>r
 | _,_,_+1,.nil=>.nil
 | _,_,n+1,.cons _ t=>Vals.drop n t
def uc:Option V→Option Value→Prop
 | some v,some u=>RelV v u
 | none,none=>True
 | _,_=>False
def KV {κ:Type}:List (κ×V)→List (κ×Value)→Prop:=Paired fun (p:κ×V) (q:κ×Value)=>p.1=q.1∧RelV p.2 q.2
inductive HO where
 | lst (xs:List V)
 | tup (xs:List V)
 | dK (Hl:List (Key×V))
 | set (S:Int→Bool) (n:Nat)
 | ins (C dx:Addr) (fs:List (Str×V))
 | own (x:Addr)
 | xd (fs:List (Str×V))
 | met (f x:Addr)
 | VV (lo hi:Int)
 | oI (o:Obj) (u:HO)
 | Ka (ps:Array Value)
 | ext (φ:Heap→Prop)
abbrev Hp:=Addr→Option HO
def upd (H:Hp) (a:Addr) (o:HO):Hp:=fun b=>if b=a then some o else H b
theorem aL {H:Hp} {a:Addr} {o:HO}:upd H a o a=some o:=by unfold upd;rw[ao rfl]
theorem b7 {H:Hp} {a b:Addr} {o:HO} (h:b≠a):upd H a o b=H b:=by unfold upd;rw[ag h]
theorem Pd {H:Hp} {a:Addr} {o u:HO}:upd (upd H a o) a u=upd H a u:=by
 funext b;unfold upd;split<;>rfl
theorem FK {H:Hp} {a b:Addr} {o u:HO} (h:H a=some o) (h':H b=some u) (d:o≠u):a≠b:=by
 intro e;subst e;rw[h] at h';exact d (bM h')
theorem da {H:Hp} {a b:Addr} {o:HO} (h:H a=some o) (h':H b=none):a≠b:=by
 intro e;subst e;rw[h] at h';cases h'
section
variable (P:Program) (w:World)
def gZ (H:Hp) (h:Heap) (a:Addr):HO→Prop
 | .lst xs=>xs.length≤sizeLine∧∃(bq:List Value) (n:Nat),Vals xs bq∧h.get? a=some { cls:=.type "list",data:=.seq bq.toArray n }
 | .tup xs=>xs.length≤sizeLine∧∃bq:List Value,Vals xs bq∧IsTup h a bq.toArray
 | .dK Hl=>Hl.length≤sizeLine∧(a==sysModules)=false∧∃vs,KV Hl vs∧h.DictOf (Pc P w) a vs
 | .set S n=>h.SetOf (intKind P w) a S n
 | .ins C dx fs=>H dx=some (.own a)∧fs.length≤1000∧dx≠a∧h.get? a=some (PySem.W.instObj C dx) ∧
  ∃mA,h.Ns1 dx mA∧(∀f,uc (fs.lookup f) (mA f))∧PySem.Within mA (fs.map (·.1))
 | .own _=>∃o,h.get? a=some o
 | .xd fs=>∃mA,h.Ns1 a mA∧∀f,uc (fs.lookup f) (mA f)
 | .VV lo hi=>∃t u v,h.get? a=some { cls:=.type "range",data:=.fields #[.int lo t,.int hi u,.int 1 v] }
 | .oI o u=>h.get? a=some o∧gZ H h a u
 | .Ka ps=>h.get? a=some { cls:=.none,data:=.fields ps }
 | .met f x=>h.get? a=some (PySem.W.methodObj (.ref f) (.ref x))
 | .ext φ=>φ h∧(∃o,h.get? a=some o)∧∀h1 h2:Heap,φ h1→(∀o,h1.get? a=some o→h2.get? a=some o)→φ h2
def jt (H:Hp) (h:Heap):Prop:=∀a o,H a=some o→gZ P w H h a o
end
section
variable {P:Program} {w:World} {H H':Hp} {h h':Heap} {a:Addr} {o:HO}
theorem gZ.lt (x:gZ P w H h a o):a<h.objs.size:=by
 cases o with
 | lst xs=>obtain⟨_,_,_,_,e⟩:=x;exact Heap.lt_size e
 | tup xs=>obtain⟨_,_,_,p⟩:=x;exact p.lt
 | dK Hl=>obtain⟨_,_,_,_,o,_,_,e,_⟩:=x;exact Heap.lt_size e
 | set S n=>obtain⟨o,_,_,_,e,_⟩:=x;exact Heap.lt_size e
 | ins C dx fs=>obtain⟨_,_,_,e,_⟩:=x;exact Heap.lt_size e
 | own y=>obtain⟨_,e⟩:=x;exact Heap.lt_size e
 | xd fs=>obtain⟨_,⟨_,_,_,e,_⟩,_⟩:=x;exact Heap.lt_size e
 | VV lo hi=>obtain⟨_,_,_,e⟩:=x;exact Heap.lt_size e
 | oI ob u=>obtain⟨e,_⟩:=x;exact Heap.lt_size e
 | Ka ps=>exact Heap.lt_size (show h.get? a=some _ from x)
 | met f y=>exact Heap.lt_size (show h.get? a=some _ from x)
 | ext φ=>obtain⟨_,⟨_,e⟩,_⟩:=x;exact Heap.lt_size e
theorem gZ.yB (x:gZ P w H h a o) (k:∀b u,(b=a∨H b=some (.own a))→h.get? b=some u→h'.get? b=some u)
  (ho:∀b,H b=some (.own a)→H' b=some (.own a)) (ht:∀b xs,H b=some (.tup xs)→H' b=some (.tup xs)):gZ P w H' h' a o:=by
 induction o with
 | lst xs=>obtain⟨z,bq,n,r,e⟩:=x;exact⟨z,bq,n,r,k _ _ (.inl rfl) e⟩
 | tup xs=>obtain⟨z,bq,r,ob,e,c⟩:=x;exact⟨z,bq,r,ob,k _ _ (.inl rfl) e,c⟩
 | dK Hl=>obtain⟨z,y,vs,r,ob,es,ep,e,c⟩:=x;exact⟨z,y,vs,r,ob,es,ep,k _ _ (.inl rfl) e,c⟩
 | set S n=>obtain⟨ob,es,ep,t,e,c⟩:=x;exact⟨ob,es,ep,t,k _ _ (.inl rfl) e,c⟩
 | ins C dx fs =>
  obtain⟨d,z,ne,e,mA,⟨od,es,ep,e2,c⟩,r⟩:=x;exact⟨ho _ d,z,ne,k _ _ (.inl rfl) e,mA,⟨od,es,ep,k _ _ (.inr d) e2,c⟩,r⟩
 | own y=>obtain⟨ob,e⟩:=x;exact⟨ob,k _ _ (.inl rfl) e⟩
 | xd fs=>obtain⟨mA,⟨od,es,ep,e,c⟩,r⟩:=x;exact⟨mA,⟨od,es,ep,k _ _ (.inl rfl) e,c⟩,r⟩
 | VV lo hi=>obtain⟨t,u,v,e⟩:=x;exact⟨t,u,v,k _ _ (.inl rfl) e⟩
 | oI ob u ih=>obtain⟨e,q⟩:=x;exact⟨k _ _ (.inl rfl) e,ih q⟩
 | Ka ps =>
  have e:h.get? a=some { cls:=.none,data:=.fields ps }:=x;show h'.get? a=some { cls:=.none,data:=.fields ps };exact k a _ (.inl rfl) e
 | met f y =>
  have e:h.get? a=some (PySem.W.methodObj (.ref f) (.ref y)):=x;show h'.get? a=some (PySem.W.methodObj (.ref f) (.ref y));exact k a _ (.inl rfl) e
 | ext φ=>obtain⟨p,⟨o,e⟩,st⟩:=x;exact⟨st _ _ p fun o q=>k _ _ (.inl rfl) q,⟨o,k _ _ (.inl rfl) e⟩,st⟩
theorem jt.lt (x:jt P w H h) (e:H a=some o):a<h.objs.size:=(x a o e).lt
theorem jt.fresh (x:jt P w H h) (e:h.objs.size≤a):H a=none:=by
 cases q:H a with
 | none=>rfl
 | some u=>exact absurd (b5 (x.lt q) e) (i6 _)
theorem jt.kept (x:jt P w H h) (k:∀b u,h.get? b=some u→h'.get? b=some u):jt P w H h':=fun a o e =>
 (x a o e).yB (fun b u _ q=>k b u q) (fun _ q=>q) fun _ _ q=>q
theorem jt.laid (x:jt P w H h) (k:∀b u,h.get? b=some u→h'.get? b=some u) (hp:h.objs.size≤a) (new:gZ P w (upd H a o) h' a o):jt P w (upd H a o) h':=fun b u e=>by
 have hn:=x.fresh hp;by_cases hb:b=a
 ·subst hb;rw[aL] at e;cases e;exact new
 ·rw[b7 hb] at e;exact(x b u e).yB (fun c v _ q=>k c v q) (fun c q=>by rw[b7 (da q hn)];exact q) fun c xs q=>by rw[b7 (da q hn)];exact q
end
def Rd (H:Hp) (a:Addr) (u:HO):Prop:=H a=some u∨∃o,H a=some (.oI o u)
theorem Rd.ok {P:Program} {w:World} {H:Hp} {h:Heap} {a:Addr} {u:HO} (r:Rd H a u) (x:jt P w H h):gZ P w H h a u:=by
 rcases r with r | ⟨o,r⟩
 ·exact x a u r
 ·obtain⟨_,q⟩:=x a _ r;exact q
def Sw:Option HO→Prop
 | some (.lst _)=>True
 | some (.dK _)=>True
 | some (.set _ _)=>True
 | some (.ins _ _ _)=>True
 | some (.ext _)=>True
 | _=>False
section
variable {P:Program} {w:World} {H:Hp} {h h':Heap} {x e:Addr} {o':HO}
theorem jt.write (ok:jt P w H h) (mu:Sw (H x)) (he:e=x∨H e=some (.own x)) (k:∀b u,b≠e→h.get? b=some u→h'.get? b=some u) (Nb:∃u,h'.get? e=some u)
  (new:gZ P w (upd H x o') h' x o'):jt P w (upd H x o') h':=fun b u q=>by
 have Vd:∀c y,H c=some (.own y)→c≠x:=fun c y r z=>by subst z;rw[r] at mu;exact mu
 have Yj:∀c xs,H c=some (.tup xs)→c≠x:=fun c xs r z=>by subst z;rw[r] at mu;exact mu
 by_cases hb:b=x
 ·subst hb;rw[aL] at q;cases q;exact new
 ·rw[b7 hb] at q;by_cases Kb:b=e
  ·have q':H b=some (.own x):=by
    rcases he with z | z
    ·exact absurd (Kb.trans z) hb
    ·rw[Kb];exact z
   rw[q] at q';cases q';obtain⟨v,hv⟩:=Nb;exact⟨v,by rw[Kb];exact hv⟩
  ·refine(ok b u q).yB (fun c v hc r=>k c v ?_ r) (fun c r=>by rw[b7 (Vd c b r)];exact r) fun c xs r=>by rw[b7 (Yj c xs r)];exact r
   rcases hc with rfl | hc
   ·exact Kb
   ·rintro rfl;rcases he with z | z
    ·exact Vd c b hc z
    ·rw[hc] at z;cases z;exact hb rfl
end
structure Un (fs ex:List Addr) (H H':Hp) (h h':Heap):Prop where
 keep:∀b o,h.get? b=some o→H b=none→b∉fs→b∉ex→h'.get? b=some o
 slot:∀b o,h.get? b=some o→H b=none→b∈fs→b∉ex→∃sl,h'.get? b=some { o with slots:=sl }
 free:∀b o,h.get? b=some o→H b=none→b∉ex→H' b=none
 there:∀b o,h.get? b=some o→b∉ex→∃o',h'.get? b=some o'
 vA:∀b xs,H b=some (.tup xs)→H' b=some (.tup xs)
 ud:∀b o u,H b=some (.oI o u)→H' b=some (.oI o u)
 vB:∀b ps,H b=some (.Ka ps)→∃more,H' b=some (.Ka (ps++more))
section
variable {fs fs' ex ex':List Addr} {H H1 H2:Hp} {h h1 h2 h':Heap} {a x e:Addr} {o:HO}
theorem Un.any (u:Un fs ex H H1 h h1) {b:Addr} {ob:Obj} (q:h.get? b=some ob) (n:H b=none) (hx:b∉ex):∃sl,h1.get? b=some { ob with slots:=sl }:=by
 by_cases hb:b∈fs
 ·exact u.slot b ob q n hb hx
 ·exact⟨ob.slots,u.keep b ob q n hb hx⟩
theorem Un.kept (k:∀b u,h.get? b=some u→h'.get? b=some u):Un fs ex H H h h' :=
 ⟨fun b ob q _ _ _=>k b ob q,fun b ob q _ _ _=>⟨ob.slots,k b ob q⟩,fun _ _ _ n _=>n,fun b ob q _=>⟨ob,k b ob q⟩,fun _ _ q=>q,fun _ _ _ q=>q,fun _ ps q=>⟨#[],by rw[q];simp⟩⟩
theorem Un.refl:Un fs ex H H h h:=Un.kept fun _ _ q=>q
theorem Un.laid (k:∀b u,h.get? b=some u→h'.get? b=some u) (hp:h.objs.size≤a) (hn:H a=none):Un fs ex H (upd H a o) h h' where
 keep:=fun b u q _ _ _=>k b u q
 slot:=fun b u q _ _ _=>⟨u.slots,k b u q⟩
 free:=fun b u q n _=>by rw[b7 (dI (b5 (Heap.lt_size q) hp))];exact n
 there:=fun b u q _=>⟨u,k b u q⟩
 vA:=fun b xs q=>by rw[b7 (da q hn)];exact q
 ud:=fun b u xs q=>by rw[b7 (da q hn)];exact q
 vB:=fun b ps q=>⟨#[],by rw[b7 (da q hn),q];simp⟩
theorem Un.write (mu:Sw (H x)) (he:e=x∨H e=some (.own x)) (k:∀b u,b≠e→h.get? b=some u→h'.get? b=some u) (Nb:∃u,h'.get? e=some u):Un fs ex H (upd H x o) h h':=by
 have hx:∀b,H b=none→b≠x:=fun b n z=>by subst z;rw[n] at mu;exact mu
 have hb:∀b,H b=none→b≠e:=fun b n z=>by
  subst z;rcases he with r | r
  ·exact hx b n r
  ·rw[n] at r;cases r
 have hm:∀b u,H b=some u→¬Sw (some u)→b≠x:=fun b u q nm z=>by subst z;rw[q] at mu;exact nm mu
 refine⟨fun b u q n _ _=>k b u (hb b n) q,fun b u q n _ _=>⟨u.slots,k b u (hb b n) q⟩,fun b u q n _=>by rw[b7 (hx b n)];exact n,fun b u q _=>?_,
  fun b xs q=>by rw[b7 (hm b _ q fun z=>z)];exact q,fun b u xs q=>by rw[b7 (hm b _ q fun z=>z)];exact q,fun b ps q=>⟨#[],by rw[b7 (hm b _ q fun z=>z),q];simp⟩⟩
 by_cases Kb:b=e
 ·subst Kb;exact Nb
 ·exact⟨u,k b u Kb q⟩
end
def Sx (h:Heap) (H:Hp):List Addr:=(List.range h.objs.size).filter fun a=>(H a).isSome
def vC (h:Heap) (H:Hp):Heap:=PySem.W.hideAll h (Sx h H)
theorem Kc (h:Heap) (H:Hp):(vC h H).objs.size=h.objs.size:=PySem.W.hideAll_size _ _
theorem Nc {h:Heap} {H:Hp} {b:Addr} {o:Obj} (e:h.get? b=some o) (n:H b=none):(vC h H).get? b=some o :=
 PySem.W.hideAll_get _ e fun hm=>by
  have q:(H b).isSome=true:=(List.mem_filter.mp hm).2;rw[n] at q;simp at q
theorem Pe {h:Heap} {H:Hp} {b:Addr} {o:Obj} (e:(vC h H).get? b=some o):h.get? b=some o∧H b=none:=by
 have e':h.get? b=some o:=PySem.W.of_hideAll (Sx h H) e;refine⟨e',?_⟩;cases q:H b with
 | none=>rfl
 | some x =>
  have hm:b∈Sx h H:=List.mem_filter.mpr ⟨oM.mpr (Heap.lt_size e'),by simp[q]⟩;have z:(vC h H).get? b=none:=PySem.W.hideAll_none (Sx h H) hm;rw[z] at e;cases e
end L2
namespace L2
open PySem PySem.Spec PyProof.Rows
structure Mod (K:aP) (mg:Str→Option Value) (base:Heap):Prop where
 vD:K.In base
 glob:base.Ns mainGlobals mg
 blt:∃mb,base.Ns builtinsNs mb∧∀x:Str,x≠"__name__"→mb x=bootBuiltins x
 nolimit:base.NoLimit
structure Cx where
 prog:Program
 w:World
 K:aP
 mg:Str→Option Value
 base:Heap
 A:Around
 N:List Str
 oJ:Shared
 Pf:Hp
 env:Env
 outer:List Env
 stack:List Env
 ex:List Addr
 fn:Str→Bool
 calm:Bool
 pn:List (Addr×Obj)
 xe:Value→Shared→Prop
def m8 (l:List Env):List Addr:=l.filterMap (·.frame)
abbrev Cx.fs (X:Cx):List Addr:=m8 X.outer
def Pg (sc:Scope) (x:Str):Prop:=sc.names.lookup x=some .local∨sc.names.lookup x=some .cell∨sc.names.lookup x=some .free
def Loc (sc:Scope) (x:Str):Prop:=sc.names.lookup x=some .local∨sc.names.lookup x=some .cell
def Look (env:Env) (h:Heap) (m:Str→Option Value) (x:Str) (u:Value):Prop :=
 (env.kindOf x=some .local∧m x=some u)∨((env.kindOf x=some .cell∨env.kindOf x=some .free)∧∃c,env.cells.lookup x=some c∧h.IsCell c (some u))
structure Cx.Ok (X:Cx):Prop where
 mod:Mod X.K X.mg X.base
 kind:X.env.scope.kind=.function
 glob:X.env.globals=mainGlobals
 blt:X.env.builtins=builtinsNs
 above:X.oJ.heap.objs.size≤X.env.locals
 inj:∀x y c,X.env.cells.lookup x=some c→X.env.cells.lookup y=some c→x=y
 has:∀x,(X.env.kindOf x=some .cell∨X.env.kindOf x=some .free)→∃c,X.env.cells.lookup x=some c
 Hm:∀x c,X.fn x=true→X.env.cells.lookup x=some c→X.oJ.heap.objs.size≤c
 hd:X.calm=true→X.A.handled=none
 frames:X.A.frames=some X.stack
 Kd:X.stack=X.outer∨(X.stack=X.env::X.outer∧X.env.frame=some X.env.locals)
 AL:∀b∈X.ex,b≠X.env.locals∧∀x c,X.env.cells.lookup x=some c→c≠b
 bs:∀b o,X.base.get? b=some o→X.oJ.heap.get? b=some o∧X.Pf b=none
 zp:X.base.objs.size≤X.oJ.heap.objs.size
 yC:∀b o,X.base.get? b=some o→b∉X.ex
 yD:∀b∈X.ex,b∉X.fs
 mn:X.oJ.heap.FunFrames X.base X.outer
 DJ:∀b∈X.fs,X.Pf b=none
structure Inv (X:Cx) (pins:List (Addr×Obj)) (σ:List (Option V)) (H:Hp) (s:Shared):Prop where
 ok:X.Ok
 os:s.os=X.oJ.os
 bare:AllBare s.gens
 base:Un X.fs X.ex X.Pf H X.oJ.heap s.heap
 loc:∃m,s.heap.Ns X.env.locals m∧∀(i:Nat) (x:Str) (v:V),X.N[i]?=some x→σ[i]?=some (some v)→Pg X.env.scope x→∃u,RelV v u∧Look X.env s.heap m x u
 cell:∀x c,X.env.cells.lookup x=some c→∃v,s.heap.IsCell c v
 free:H X.env.locals=none
 j8:∀x c,X.env.cells.lookup x=some c→H c=none
 pin:∀p∈X.pn++pins,s.heap.get? p.1=some p.2∧H p.1=none∧p.1≠X.env.locals∧p.1∉X.fs∧∀v,p.2.data≠.cell v
 dr:jt X.prog X.w H s.heap
 len:σ.length=X.N.length
section
variable {X:Cx} {pins:List (Addr×Obj)} {σ:List (Option V)} {H H':Hp} {s:Shared} {h':Heap}
theorem Cx.Ok.Yk (ok:X.Ok) {b:Addr} {o:Obj} (e:X.base.get? b=some o):b∉X.fs:=fun hb=>by
 have:=(ok.mn.mem hb).1;rw[e] at this;cases this
theorem Inv.bs (I:Inv X pins σ H s):∀b o,X.base.get? b=some o→s.heap.get? b=some o∧H b=none:=fun b o e =>
 ⟨I.base.keep b o (I.ok.bs b o e).1 (I.ok.bs b o e).2 (I.ok.Yk e) (I.ok.yC b o e),I.base.free b o (I.ok.bs b o e).1 (I.ok.bs b o e).2 (I.ok.yC b o e)⟩
theorem Inv.bk (I:Inv X pins σ H s):∀b o,X.base.get? b=some o→s.heap.get? b=some o:=fun b o e=>(I.bs b o e).1
theorem Inv.mod (I:Inv X pins σ H s):Mod X.K X.mg X.base:=I.ok.mod
theorem Inv.qM (I:Inv X pins σ H s):X.K.In s.heap:=I.ok.mod.vD.keeps I.bk
theorem Inv.lt (I:Inv X pins σ H s):X.env.locals<s.heap.objs.size:=let ⟨_,hn,_⟩:=I.loc;hn.lt
theorem Inv.sz (I:Inv X pins σ H s):X.oJ.heap.objs.size≤s.heap.objs.size:=bZ I.ok.above (mw I.lt)
theorem Inv.Yl (I:Inv X pins σ H s) {a:Addr} (h:s.heap.objs.size≤a):a∉X.fs:=fun hb=>by
 obtain⟨_,o,ho,_⟩:=I.ok.mn.mem hb;exact absurd (b5 (Heap.lt_size ho) (bZ I.sz h)) (i6 _)
theorem Inv.Ke (I:Inv X pins σ H s):∀x c,X.env.cells.lookup x=some c→c≠X.env.locals:=fun x c e z=>by
 obtain⟨v,o,ho,hd⟩:=I.cell x c e;obtain⟨m,⟨o',es,ep,xH,qY,_⟩,_⟩:=I.loc;rw[z,xH] at ho;cases ho;rw[qY] at hd;cases hd
theorem Inv.mn (I:Inv X pins σ H s):s.heap.FunFrames X.base X.outer:=by
 have all:∀(l:List Env),(∀b∈m8 l,b∈X.fs)→X.oJ.heap.FunFrames X.base l→s.heap.FunFrames X.base l:=by
  intro l
  induction l with
  | nil=>intro _ _;trivial
  | cons env r ih =>
   intro hs hl;obtain⟨hk,⟨L,o,hf,hn,ho,hd⟩,hr⟩:=hl;have hL:L∈X.fs:=hs L (by unfold m8;rw[oN,hf];exact fA);obtain⟨sl,e⟩:=I.base.slot L o ho (I.ok.DJ L hL) hL fun z=>I.ok.yD L z hL;exact⟨hk,⟨L,_,hf,hn,e,hd⟩,ih (fun b hb=>hs b (by unfold m8;rw[oN,hf];exact dv _ hb)) hr⟩
 exact all X.outer (fun _ hb=>hb) I.ok.mn
theorem Inv.stack (I:Inv X pins σ H s):s.heap.FunFrames X.base X.stack:=by
 rcases I.ok.Kd with e | ⟨e,hf⟩
 ·rw[e];exact I.mn
 ·rw[e];obtain⟨m,hn,_⟩:=I.loc;refine .cons (by rw[I.ok.kind];decide) hf hn ?_ I.mn;exact Heap.get?_none_of_le (bZ I.ok.zp I.ok.above)
theorem Inv.Ag (I:Inv X pins σ H s):∀b∈m8 X.stack,b∈X.env.locals::X.fs:=fun b hb=>by
 rcases I.ok.Kd with e | ⟨e,hf⟩
 ·rw[e] at hb;exact dv _ hb
 ·rw[e] at hb;unfold m8 at hb;rw[oN,hf] at hb;exact hb
theorem Inv.AM (I:Inv X pins σ H s):∀b∈m8 X.stack,H b=none:=fun b hb=>by
 rcases cO.mp (I.Ag b hb) with e | hb
 ·rw[e];exact I.free
 ·obtain⟨_,o,ho,_⟩:=I.ok.mn.mem hb;exact I.base.free b o ho (I.ok.DJ b hb) fun z=>I.ok.yD b z hb
theorem Inv.step {g':Array GenState} {t':Nat} {d':Drawn} {ch:List Addr} (I:Inv X pins σ H s)
  (AN:∀b∈ch,(b∈X.ex∨X.oJ.heap.objs.size≤b)∧b≠X.env.locals∧(∀x c,X.env.cells.lookup x=some c→c≠b)∧∀p∈X.pn++pins,p.1≠b)
  (keep:∀b o,b≠X.env.locals→b∉X.fs→b∉ch→s.heap.get? b=some o→H b=none→h'.get? b=some o)
  (slot:∀b o,b≠X.env.locals→b∈X.fs→b∉ch→s.heap.get? b=some o→H b=none→∃sl,h'.get? b=some { o with slots:=sl }) (free:∀b o,b∉ch→s.heap.get? b=some o→H b=none→H' b=none)
  (there:∀b o,b∉ch→s.heap.get? b=some o→∃o',h'.get? b=some o')
  (vA:∀b xs,H b=some (.tup xs)→H' b=some (.tup xs)) (ud:∀b o u,H b=some (.oI o u)→H' b=some (.oI o u)) (vB:∀b ps,H b=some (.Ka ps)→∃more,H' b=some (.Ka (ps++more)))
  (ns:∀m,s.heap.Ns X.env.locals m→h'.Ns X.env.locals m) (dr:jt X.prog X.w H' h') (hg:AllBare g') :
  Inv X pins σ H' { s with heap:=h',gens:=g',drawn:=d',toks:=t' }:=by
 have Ym:∀b o,X.oJ.heap.get? b=some o→b≠X.env.locals:=fun b o e=>dI (b5 (Heap.lt_size e) I.ok.above);have Sy:∀b o,X.oJ.heap.get? b=some o→b∉X.ex→b∉ch:=fun b o e hx hb=>by
  rcases (AN b hb).1 with z | z
  ·exact hx z
  ·exact absurd (b5 (Heap.lt_size e) z) (i6 _)
 have cellK:∀x c,X.env.cells.lookup x=some c→∀v,s.heap.IsCell c v→h'.IsCell c v:=fun x c e v ⟨o,ho,hd⟩=>by
  have Ph:c∉ch:=fun z=>(AN c z).2.2.1 x c e rfl;by_cases hc:c∈X.fs
  ·obtain⟨sl,q⟩:=slot c o (I.Ke x c e) hc Ph ho (I.j8 x c e);exact⟨_,q,hd⟩
  ·exact⟨o,keep c o (I.Ke x c e) hc Ph ho (I.j8 x c e),hd⟩
 refine⟨I.ok,I.os,hg,⟨fun b o e n hb hx=>?_,fun b o e n hb hx=>?_,fun b o e n hx=>?_,fun b o e hx=>?_,fun b xs e=>vA b xs (I.base.vA b xs e),fun b o xs e=>ud b o xs (I.base.ud b o xs e),fun b ps e=>?_⟩,?_,fun x c e=>?_,?_,fun x c e=>?_,fun p hp=>?_,dr,I.len⟩
 ·exact keep b o (Ym b o e) hb (Sy b o e hx) (I.base.keep b o e n hb hx) (I.base.free b o e n hx)
 ·obtain⟨sl,e1⟩:=I.base.slot b o e n hb hx;obtain⟨sl',e2⟩:=slot b _ (Ym b o e) hb (Sy b o e hx) e1 (I.base.free b o e n hx);exact⟨sl',e2⟩
 ·obtain⟨o',e1⟩:=I.base.there b o e hx;exact free b o' (Sy b o e hx) e1 (I.base.free b o e n hx)
 ·obtain⟨o',e1⟩:=I.base.there b o e hx;exact there b o' (Sy b o e hx) e1
 ·obtain⟨m1,e1⟩:=I.base.vB b ps e;obtain⟨m2,e2⟩:=vB b _ e1;exact⟨m1++m2,by rw[e2,Array.append_assoc]⟩
 ·obtain⟨m,hn,hl⟩:=I.loc;refine⟨m,ns m hn,fun i x v e1 e2 e3=>?_⟩;obtain⟨u,r,l⟩:=hl i x v e1 e2 e3;refine⟨u,r,?_⟩;rcases l with l | ⟨k,c,e,z⟩
  ·exact .inl l
  ·exact .inr ⟨k,c,e,cellK x c e _ z⟩
 ·obtain⟨v,z⟩:=I.cell x c e;exact⟨v,cellK x c e v z⟩
 ·obtain⟨m,⟨o,_,_,ho,_⟩,_⟩:=I.loc;exact free _ o (fun z=>(AN _ z).2.1 rfl) ho I.free
 ·obtain⟨v,o,ho,hd⟩:=I.cell x c e;exact free c o (fun z=>(AN c z).2.2.1 x c e rfl) ho (I.j8 x c e)
 ·obtain⟨e,n,ne,nf,d⟩:=I.pin p hp;have Ph:p.1∉ch:=fun z=>(AN p.1 z).2.2.2 p hp rfl;exact⟨keep p.1 p.2 ne nf Ph e n,free p.1 p.2 Ph e n,ne,nf,d⟩
theorem Inv.un {t':Nat} (I:Inv X pins σ H s) (u:Un X.fs [] H H' s.heap h') (dr:jt X.prog X.w H' h'):Inv X pins σ H' { s with heap:=h',toks:=t' }:=by
 obtain⟨m,⟨o,es,ep,ho,r⟩,_⟩:=id I.loc;obtain⟨sl,hL⟩:=u.any ho I.free (by simp);exact I.step (g':=s.gens) (d':=s.drawn) (ch:=[]) (fun _ z=>nomatch z) (fun b o _ hb _ e n=>u.keep b o e n hb (by simp)) (fun b o _ hb _ e n=>u.slot b o e n hb (by simp)) (fun b o _ e n=>u.free b o e n (by simp)) (fun b o _ e=>u.there b o e (by simp)) u.vA u.ud u.vB (fun m' hm=>by
  obtain⟨o',VW,VX,xH,r'⟩:=hm;rw[ho] at xH;cases xH;exact⟨_,VW,VX,hL,r'⟩) dr I.bare
theorem Inv.call {g':Array GenState} {t':Nat} {d':Drawn} {ch:List Addr} (I:Inv X pins σ H s) (u:Un (m8 X.stack) ch H H' s.heap h') (dr:jt X.prog X.w H' h') (hg:AllBare g')
  (AN:∀b∈ch,(b∈X.ex∨X.oJ.heap.objs.size≤b)∧b≠X.env.locals∧(∀x c,X.env.cells.lookup x=some c→c≠b)∧∀p∈X.pn++pins,p.1≠b) :
  Inv X pins σ H' { s with heap:=h',gens:=g',drawn:=d',toks:=t' }:=by
 obtain⟨m,⟨o,es,ep,ho,r⟩,_⟩:=id I.loc;obtain⟨sl,hL⟩:=u.any ho I.free fun z=>(AN _ z).2.1 rfl;exact I.step (ch:=ch) AN (fun b o hL hb hc e n=>u.keep b o e n (fun z=>(cO.mp (I.Ag b z)).elim hL hb) hc) (fun b o _ _ hc e n=>u.any e n hc) (fun b o hc e n=>u.free b o e n hc) (fun b o hc e=>u.there b o e hc) u.vA u.ud u.vB (fun m' hm=>by
  obtain⟨o',VW,VX,xH,r'⟩:=hm;rw[ho] at xH;cases xH;exact⟨_,VW,VX,hL,r'⟩) dr hg
theorem Inv.turned {t':Nat} {it:Addr} (I:Inv X pins σ H s) (k:∀b o,b≠it→s.heap.get? b=some o→h'.get? b=some o) (hn:H it=none) (hL:it≠X.env.locals)
  (h1:it∈X.ex∨X.oJ.heap.objs.size≤it) (h2:∀x c,X.env.cells.lookup x=some c→c≠it) (h3:∀p∈X.pn++pins,p.1≠it):Inv X pins σ H { s with heap:=h',toks:=t' }:=by
 have Hn:∀b u,H b=some u→b≠it:=fun b u e z=>by rw[z,hn] at e;cases e
 refine I.step (g':=s.gens) (d':=s.drawn) (ch:=[it]) (fun b hb=>?_) (fun b o _ _ hc e _=>k b o (fun z=>hc (by simp[z])) e) (fun b o _ _ hc e _=>⟨o.slots,k b o (fun z=>hc (by simp[z])) e⟩) (fun _ _ _ _ n=>n)
  (fun b o hc e=>⟨o,k b o (fun z=>hc (by simp[z])) e⟩) (fun _ _ e=>e) (fun _ _ _ e=>e) (fun b ps e=>⟨#[],by rw[e];simp⟩) (fun m hm=>?_) (fun b u e=>?_) I.bare
 ·have e:b=it:=by simpa using hb
  subst e;exact⟨h1,hL,h2,h3⟩
 ·obtain⟨o,es,ep,ho,r⟩:=hm;exact⟨o,es,ep,k _ o (j7 hL) ho,r⟩
 ·refine(I.dr b u e).yB (fun c v hc q=>k c v ?_ q) (fun _ q=>q) fun _ _ q=>q;rcases hc with z | z
  ·rw[z];exact Hn b u e
  ·exact Hn c _ z
theorem Inv.tok (I:Inv X pins σ H s) (t:Nat):Inv X pins σ H { s with toks:=t }:=I.un (h':=s.heap) (t':=t) Un.refl I.dr
theorem Inv.kept {t':Nat} (I:Inv X pins σ H s) (k:∀b u,s.heap.get? b=some u→h'.get? b=some u):Inv X pins σ H { s with heap:=h',toks:=t' }:=I.un (Un.kept k) (I.dr.kept k)
theorem Inv.laid {a:Addr} {o:HO} {t':Nat} (I:Inv X pins σ H s) (k:∀b u,s.heap.get? b=some u→h'.get? b=some u) (hp:s.heap.objs.size≤a) (new:gZ X.prog X.w (upd H a o) h' a o) :
 Inv X pins σ (upd H a o) { s with heap:=h',toks:=t' }:=I.un (Un.laid k hp (I.dr.fresh hp)) (I.dr.laid k hp new)
theorem Inv.write {x e:Addr} {o:HO} {t':Nat} (I:Inv X pins σ H s) (mu:Sw (H x)) (he:e=x∨H e=some (.own x)) (k:∀b u,b≠e→s.heap.get? b=some u→h'.get? b=some u) (Nb:∃u,h'.get? e=some u)
 (new:gZ X.prog X.w (upd H x o) h' x o):Inv X pins σ (upd H x o) { s with heap:=h',toks:=t' }:=I.un (Un.write mu he k Nb) (I.dr.write mu he k Nb new)
theorem Inv.weak {σ':List (Option V)} (I:Inv X pins σ H s) (hl:σ'.length=σ.length) (w:∀(i:Nat) v,σ'[i]?=some (some v)→σ[i]?=some (some v)):Inv X pins σ' H s :=
 ⟨I.ok,I.os,I.bare,I.base,let ⟨m,hn,hl'⟩:=I.loc;⟨m,hn,fun i x v e1 e2 e3=>hl' i x v e1 (w i v e2) e3⟩,I.cell,I.free,I.j8,I.pin,I.dr,hl.trans I.len⟩
theorem Inv.Ho {jI:List (Addr×Obj)} (I:Inv X pins σ H s) (h:∀p∈jI,s.heap.get? p.1=some p.2∧H p.1=none∧p.1≠X.env.locals∧p.1∉X.fs∧∀v,p.2.data≠.cell v):Inv X jI σ H s :=
 ⟨I.ok,I.os,I.bare,I.base,I.loc,I.cell,I.free,I.j8,fun p hp=>(pJ.mp hp).elim (fun z=>I.pin p (yN _ z)) (h p),I.dr,I.len⟩
theorem xI {N:List Str} (hN:N.Nodup) {i j:Nat} {x:Str} (a:N[i]?=some x) (b:N[j]?=some x):i=j:=by
 obtain⟨h1,e1⟩:=g9.mp a;obtain⟨h2,e2⟩:=g9.mp b;exact(List.getElem_inj hN).mp (e1.trans e2.symm)
theorem AO {M:Model} {A:Around} {E:Value→Shared→Prop} {i:Nat} {x:Str} {v:V} {u:Value} {Q:Unit→Shared→Prop} (I:Inv X pins σ H s) (hN:X.N.Nodup) (hi:X.N[i]?=some x) (hx:Loc X.env.scope x) (r:RelV v u)
  (h:∀s',Inv X pins (σ.set i (some v)) H s'→(∃a,Heap.SameBut a s.heap s'.heap∧(a=X.env.locals∨X.env.cells.lookup x=some a))→Q () s') (hf:X.fn x=true∨X.env.scope.names.lookup x=some .local:=by first | exact .inl rfl | exact .inr rfl | assumption):wpAny M A (storeName X.env x u) Q E s:=by
 obtain⟨m,hn,hl⟩:=id I.loc;have Yn:(X.env.scope.kind==.class||(X.env.scope.kind==.module&&X.env.locals != X.env.globals))=false:=by rw[I.ok.kind];rfl
 have hiσ:i<σ.length:=by rw[I.len];exact(g9.mp hi).1
 have Ke:=I.Ke;have tracked:∀{a:Addr} {h':Heap},(∃o,s.heap.get? a=some o∧H a=none)→Heap.SameBut a s.heap h'→jt X.prog X.w H h':=fun {a h'} ha hs b ob e=>by
  obtain⟨_,_,xJ⟩:=ha;refine(I.dr b ob e).yB (fun c w' hc q=>(hs.2 c ?_).trans q) (fun _ q=>q) fun _ _ q=>q;rintro rfl;rcases hc with rfl | hc
  ·rw[xJ] at e;cases e
  ·rw[xJ] at hc;cases hc
 rcases hx with hk | hk
 ·refine wpAny_storeName_local hk hn (fun h' Hr hs=>?_) Yn;obtain⟨oL,_,_,hoL,_⟩:=id hn;refine h _ ⟨I.ok,I.os,I.bare,⟨fun b o e n hb hx=>?_,fun b o e n hb hx=>?_,I.base.free,fun b o e hx=>?_,I.base.vA,I.base.ud,I.base.vB⟩,⟨_,Hr,fun j y v' e1 e2 e3=>?_⟩,fun y c e=>?_,I.free,I.j8,fun p hp=>?_,tracked ⟨oL,hoL,I.free⟩ hs,by simpa using I.len⟩ ⟨_,hs,.inl rfl⟩
  ·exact(hs.2 b (dI (b5 (Heap.lt_size e) I.ok.above))).trans (I.base.keep b o e n hb hx)
  ·obtain⟨sl,e1⟩:=I.base.slot b o e n hb hx;exact⟨sl,(hs.2 b (dI (b5 (Heap.lt_size e) I.ok.above))).trans e1⟩
  ·obtain⟨o',e1⟩:=I.base.there b o e hx;exact⟨o',(hs.2 b (dI (b5 (Heap.lt_size e) I.ok.above))).trans e1⟩
  ·by_cases hj:j=i
   ·subst hj;rw[hi] at e1;cases e1;rw[El hiσ] at e2;cases e2;exact⟨u,r,.inl ⟨hk,by simp⟩⟩
   ·rw[En (j7 hj)] at e2;obtain⟨u',r',q⟩:=hl j y v' e1 e2 e3;refine⟨u',r',?_⟩;rcases q with ⟨k,e⟩ | ⟨k,c,e,z⟩
    ·refine .inl ⟨k,?_⟩;have:y≠x:=fun e=>hj (xI hN e1 (e ▸ hi));simp[this,e]
    ·exact .inr ⟨k,c,e,z.sameBut hs (Ke y c e)⟩
  ·obtain⟨w',z⟩:=I.cell y c e;exact⟨w',z.sameBut hs (Ke y c e)⟩
  ·obtain⟨e,n,ne,nf,d⟩:=I.pin p hp;exact⟨(hs.2 p.1 ne).trans e,n,ne,nf,d⟩
 ·have VY:X.fn x=true:=by
   rcases hf with z | z
   ·exact z
   ·rw[z] at hk;cases hk
  obtain⟨c,hc⟩:=I.ok.has x (.inl hk);obtain⟨w',z⟩:=I.cell x c hc;refine wpAny_storeName_cell I.ok.kind hk hc z (fun h' Yo hs=>?_);obtain⟨oc,Yp,Yq⟩:=id z;refine h { s with heap:=h' } ⟨I.ok,I.os,I.bare,⟨fun b o e n hb hx=>?_,fun b o e n hb hx=>?_,I.base.free,fun b o e hx=>?_,I.base.vA,I.base.ud,I.base.vB⟩,⟨m,hn.sameBut hs (j7 (Ke x c hc)),fun j y v' e1 e2 e3=>?_⟩,fun y c' e=>?_,I.free,I.j8,fun p hp=>?_,tracked ⟨oc,Yp,I.j8 x c hc⟩ hs,by simpa using I.len⟩ ⟨c,hs,.inr hc⟩
  ·exact(hs.2 b (dI (b5 (Heap.lt_size e) (I.ok.Hm x c VY hc)))).trans (I.base.keep b o e n hb hx)
  ·obtain⟨sl,e1⟩:=I.base.slot b o e n hb hx;exact⟨sl,(hs.2 b (dI (b5 (Heap.lt_size e) (I.ok.Hm x c VY hc)))).trans e1⟩
  ·obtain⟨o',e1⟩:=I.base.there b o e hx;exact⟨o',(hs.2 b (dI (b5 (Heap.lt_size e) (I.ok.Hm x c VY hc)))).trans e1⟩
  ·by_cases hj:j=i
   ·subst hj;rw[hi] at e1;cases e1;rw[El hiσ] at e2;cases e2;exact⟨u,r,.inr ⟨.inl hk,c,hc,Yo⟩⟩
   ·rw[En (j7 hj)] at e2;obtain⟨u',r',q⟩:=hl j y v' e1 e2 e3;refine⟨u',r',?_⟩;rcases q with q | ⟨k,c',e,z'⟩
    ·exact .inl q
    ·refine .inr ⟨k,c',e,z'.sameBut hs ?_⟩;rintro rfl;exact hj (xI hN e1 (I.ok.inj _ _ _ e hc ▸ hi))
  ·by_cases FL:c'=c
   ·subst FL;exact⟨_,Yo⟩
   ·obtain⟨w2,z2⟩:=I.cell y c' e;exact⟨w2,z2.sameBut hs FL⟩
  ·obtain⟨e,n,ne,nf,d⟩:=I.pin p hp;refine⟨(hs.2 p.1 ?_).trans e,n,ne,nf,d⟩;intro q;rw[q,Yp] at e;have q':oc=p.2:=bM e;exact d w' (by rw[←q'];exact Yq)
theorem EI {M:Model} {A:Around} {E:Value→Shared→Prop} {i:Nat} {x:Str} {v:V} {u:Value} {Q:Unit→Shared→Prop} (I:Inv X pins σ H s) (hN:X.N.Nodup) (hi:X.N[i]?=some x) (hx:Loc X.env.scope x) (r:RelV v u)
  (h:∀s',Inv X pins (σ.set i (some v)) H s'→Q () s') (hf:X.fn x=true∨X.env.scope.names.lookup x=some .local:=by first | exact .inl rfl | exact .inr rfl | assumption):wpAny M A (storeName X.env x u) Q E s :=
 AO I hN hi hx r (fun s' I' _=>h s' I') hf
theorem Inv.FN {s':Shared} {ch:List Addr} (I:Inv X pins σ H s) (ho:s'.os=s.os) (u:Un (m8 X.stack) ch H H' s.heap s'.heap) (dr:jt X.prog X.w H' s'.heap) (hg:AllBare s'.gens)
  (AN:∀b∈ch,(b∈X.ex∨X.oJ.heap.objs.size≤b)∧b≠X.env.locals∧(∀x c,X.env.cells.lookup x=some c→c≠b)∧∀p∈X.pn++pins,p.1≠b):Inv X pins σ H' s':=by
 obtain⟨h',g',d',t',o'⟩:=s';have e:o'=s.os:=ho;subst e;exact I.call (g':=g') (t':=t') (d':=d') u dr hg AN
end
abbrev XK:=Value→Option Addr→Hp→Prop
abbrev St:=List (Option V)
abbrev VK:=V→Hp→Prop
abbrev TE:=St→Hp→VK→Prop
abbrev TT:=St→Hp→(Bool→Hp→Prop)→Prop
abbrev TA:=St→Hp→(List V→Hp→Prop)→Prop
structure Ends where
 nx:St→Hp→Prop
 rt:VK
 bk:St→Hp→Prop:=fun _ _=>False
 ct:St→Hp→Prop:=fun _ _=>False
abbrev TS:=Ends→St→Hp→Prop
def EP (X:Cx) (pins:List (Addr×Obj)) (σ:St) (Q:VK) (u:Value) (s':Shared):Prop:=∃v H',Inv X pins σ H' s'∧RelV v u∧Q v H'
def TP (X:Cx) (pins:List (Addr×Obj)) (σ:St) (Q:Bool→Hp→Prop) (b:Bool) (s':Shared):Prop:=∃H',Inv X pins σ H' s'∧Q b H'
def AP (X:Cx) (pins:List (Addr×Obj)) (σ:St) (Q:List V→Hp→Prop) (us:List Value) (s':Shared):Prop:=∃vs H',Inv X pins σ H' s'∧Vals vs us∧Q vs H'
def SP (X:Cx) (pins:List (Addr×Obj)) (D:Ends) (f:Flow) (s':Shared):Prop :=
 match f with
 | .next=>∃σ' H',Inv X pins σ' H' s'∧D.nx σ' H'
 | .brk=>∃σ' H',Inv X pins σ' H' s'∧D.bk σ' H'
 | .cont=>∃σ' H',Inv X pins σ' H' s'∧D.ct σ' H'
 | .ret u=>∃v σ' H',Inv X pins σ' H' s'∧RelV v u∧D.rt v H'
def PE (X:Cx) (e:Expr) (t:TE):Prop :=
 ∀(pins:List (Addr×Obj)) (s:Shared) (σ:St) (H:Hp) (Q:VK),Inv X pins σ H s→t σ H Q→wpAny (model X.prog X.w) X.A (eval e X.env) (EP X pins σ Q) X.xe s
def PT (X:Cx) (e:Expr) (t:TT):Prop :=
 ∀(pins:List (Addr×Obj)) (s:Shared) (σ:St) (H:Hp) (Q:Bool→Hp→Prop),Inv X pins σ H s→t σ H Q→wpAny (model X.prog X.w) X.A (isTrue e X.env (eval e X.env)) (TP X pins σ Q) X.xe s
def PW (X:Cx) (e:Expr) (t:TT):Prop :=
 ∀(whole:Sem Value) (pins:List (Addr×Obj)) (s:Shared) (σ:St) (H:Hp) (Q:Bool→Hp→Prop),Inv X pins σ H s→t σ H Q→wpAny (model X.prog X.w) X.A (isTrue e X.env whole) (TP X pins σ Q) X.xe s
theorem PW.pt {X:Cx} {e:Expr} {t:TT} (h:PW X e t):PT X e t:=h _
def PA (X:Cx) (es:List Expr) (t:TA):Prop :=
 ∀(pos:Pos) (pins:List (Addr×Obj)) (s:Shared) (σ:St) (H:Hp) (Q:List V→Hp→Prop),Inv X pins σ H s→t σ H Q→wpAny (model X.prog X.w) X.A (spliced (backTo pos (starEach es X.env))) (AP X pins σ Q) X.xe s
def PS (X:Cx) (st:Stmt) (t:TS):Prop :=
 ∀(pins:List (Addr×Obj)) (s:Shared) (σ:St) (H:Hp) (D:Ends),Inv X pins σ H s→t D σ H→wpAny (model X.prog X.w) X.A (exec st X.env) (SP X pins D) X.xe s
def qN (X:Cx) (st:List Stmt) (t:TS):Prop :=
 ∀(pins:List (Addr×Obj)) (s:Shared) (σ:St) (H:Hp) (D:Ends),Inv X pins σ H s→t D σ H→wpAny (model X.prog X.w) X.A (execs st X.env) (SP X pins D) X.xe s
theorem dz {α:Type} {t:Sem α} {Q Q':α→Shared→Prop} {M:Model} {A:Around} {E:Value→Shared→Prop} {s:Shared} (h:wpAny M A t Q E s) (hQ:∀a s,Q a s→Q' a s):wpAny M A t Q' E s:=wpAny_mono h hQ fun _ _ x=>x
end L2
namespace L2
open PySem PySem.Spec PyProof.Rows
section
variable {X:Cx}
def Ve (i:Nat):TE:=fun σ H Q=>∃v,σ[i]?=some (some v)∧Q v H
def tC (v:V):TE:=fun _ H Q=>Q v H
theorem SD {i:Nat} {x:Str} {pos:Pos} (hN:X.N[i]?=some x) (hv:Pg X.env.scope x) (hd:(x==("__debug__":Str))=false:=by decide) (AQ:(x==("__classdict__":Str))=false:=by decide):PE X (.Name x pos) (Ve i):=by
 intro pins s σ H Q I h;obtain⟨v,e,h⟩:=h;obtain⟨m,hn,hl⟩:=I.loc;obtain⟨u,r,l⟩:=hl i x v hN e hv;have fin:EP X pins σ Q u s:=⟨v,H,I,r,h⟩;rcases l with ⟨hk,hm⟩ | ⟨hk,c,hc,Pj⟩
 ·exact wpAny_Name (wpAny_loadName_local I.ok.kind hk hn hm fin) hd
 ·rcases hk with hk | hk
  ·exact wpAny_Name (wpAny_loadName_cell I.ok.kind hk hc Pj fin) hd
  ·exact wpAny_Name (wpAny_loadName_free I.ok.kind hk hc Pj fin AQ) hd
theorem al {i j pos}:PE X (.Constant (.int i) j pos) (tC (.int i)):=fun _ _ _ H _ I h=>wpAny_Constant_int ⟨.int i,H,I.tok _,⟨_,rfl⟩,h⟩
theorem jJ {b j pos}:PE X (.Constant (.bool b) j pos) (tC (.bl b)):=fun _ _ _ H _ I h=>Constant_bool ⟨.bl b,H,I,rfl,h⟩
theorem Ma {j pos}:PE X (.Constant .none j pos) (tC .fU):=fun _ _ _ H _ I h=>Constant_none ⟨.fU,H,I,rfl,h⟩
theorem nE {x j pos}:PE X (.Constant (.str x) j pos) (tC (.str x)):=fun _ _ _ H _ I h=>Calls.Constant_str ⟨.str x,H,I.tok _,⟨_,rfl⟩,h⟩
def Gl (X:Cx) (x:Str):Prop:=X.env.kindOf x=some .globalImplicit
theorem j9 {E:Value→Shared→Prop} {pins:List (Addr×Obj)} {s:Shared} {σ:St} {H:Hp} {x:Str} {u:Value} {pos:Pos} {Q:Value→Shared→Prop} (I:Inv X pins σ H s) (hg:Gl X x) (hm:X.mg x=some u) (h:Q u s)
  (hd:(x==("__debug__":Str))=false:=by decide):wpAny (model X.prog X.w) X.A (eval (.Name x pos) X.env) Q E s :=
 Calls.Name_function_global I.ok.kind hg (Calls.loadGlobal_global (by rw[I.ok.glob];exact I.mod.glob.keeps I.bk) hm h) hd
theorem sE {E:Value→Shared→Prop} {pins:List (Addr×Obj)} {s:Shared} {σ:St} {H:Hp} {x:Str} {u:Value} {pos:Pos} {Q:Value→Shared→Prop} (I:Inv X pins σ H s) (hg:Gl X x) (hm:X.mg x=none) (hv:bootBuiltins x=some u) (h:Q u s)
  (hn:x≠"__name__":=by decide) (hd:(x==("__debug__":Str))=false:=by decide):wpAny (model X.prog X.w) X.A (eval (.Name x pos) X.env) Q E s:=by
 obtain⟨mb,h1,h2⟩:=I.mod.blt;exact Calls.Name_function_global I.ok.kind hg (Calls.loadGlobal_builtin (by rw[I.ok.glob];exact I.mod.glob.keeps I.bk) hm (by rw[I.ok.blt];exact h1.keeps I.bk) ((h2 x hn).trans hv) h) hd
theorem Pk {x:Str} {v:V} {u:Value} {pos:Pos} (hg:Gl X x) (hm:X.mg x=some u) (r:RelV v u) (hd:(x==("__debug__":Str))=false:=by decide):PE X (.Name x pos) (tC v) :=
 fun _ _ _ H _ I h=>j9 I hg hm ⟨v,H,I,r,h⟩ hd
variable {a b:Expr} {ta tb:TE} {pos:Pos}
def tB (t:TE):TT:=fun σ H Q=>t σ H fun x H1=>∃c,x=.bl c∧Q c H1
theorem aQ {e:Expr} {t:TE} (h:PE X e t) (he:∀whole,isTrue e X.env whole=(do let v ←whole;standAt e.pos;holding [v] (truthy v)):=by intro _;rfl):PT X e (tB t):=by
 intro pins s σ H Q I hw;refine isTrue_plain (dz (h pins s σ H _ I hw) fun v s1 ⟨x,H1,I1,r1,q1⟩=>?_) (he _);obtain⟨d,rfl,q⟩:=q1;cases r1;exact wpAny_truthy_bool ⟨H1,I1,q⟩
variable {tA SE:TT} {rest:List Expr}
def Yr (t u:TT):TT:=fun σ H Q=>t σ H fun c H1=>if c=true then u σ H1 Q else Q false H1
def tOr (t u:TT):TT:=fun σ H Q=>t σ H fun c H1=>if c=true then Q true H1 else u σ H1 Q
def Ys (t:TT):TT:=fun σ H Q=>t σ H fun c H1=>Q (!c) H1
theorem ka (ha:PT X a tA):PW X (.BoolOp .And [a] pos) tA:=by
 intro wh pins s σ H Q I h;refine isTrue_and (dz (ha pins s σ H Q I h) fun c s1 e=>?_);cases c with
 | true=>exact isTrue_and_nil e
 | false=>exact e
theorem dQ (ha:PT X a tA):PW X (.BoolOp .Or [a] pos) tA:=by
 intro wh pins s σ H Q I h;refine isTrue_or (dz (ha pins s σ H Q I h) fun c s1 e=>?_);cases c with
 | false=>exact isTrue_or_nil e
 | true=>exact e
theorem kc (ha:PT X a tA) (hb:PW X (.BoolOp .And (b::rest) pos) SE):PW X (.BoolOp .And (a::b::rest) pos) (Yr tA SE):=by
 intro wh pins s σ H Q I h;refine isTrue_and (dz (ha pins s σ H _ I h) fun c s1 ⟨H1,I1,q1⟩=>?_);cases c with
 | true=>exact hb wh pins s1 σ H1 Q I1 q1
 | false=>exact⟨H1,I1,q1⟩
theorem dj (ha:PT X a tA) (hb:PW X (.BoolOp .Or (b::rest) pos) SE):PW X (.BoolOp .Or (a::b::rest) pos) (tOr tA SE):=by
 intro wh pins s σ H Q I h;refine isTrue_or (dz (ha pins s σ H _ I h) fun c s1 ⟨H1,I1,q1⟩=>?_);cases c with
 | true=>exact⟨H1,I1,q1⟩
 | false=>exact hb wh pins s1 σ H1 Q I1 q1
theorem iY (ha:PT X a tA):PT X (.UnaryOp .Not a pos) (Ys tA):=by
 intro pins s σ H Q I h;exact isTrue_not (ha pins s σ H (fun c H1=>Q (!c) H1) I h)
def VZ (ta tb:TE):TE:=fun σ H Q=>ta σ H fun x H1=>∃c,x=.bl c∧if c=true then tb σ H1 Q else Q (.bl false) H1
def Yu (ta tb:TE):TE:=fun σ H Q=>ta σ H fun x H1=>∃c,x=.bl c∧if c=true then Q (.bl true) H1 else tb σ H1 Q
def V0 (ta:TE):TE:=fun σ H Q=>ta σ H fun x H1=>∃c,x=.bl c∧Q (.bl (!c)) H1
theorem jh {op} {t:TE} (h:PE X a t):PE X (.BoolOp op [a] pos) t:=fun pins s σ H Q I hw=>BoolOp_one (h pins s σ H Q I hw)
theorem lN (ha:PE X a ta) (hb:PE X (.BoolOp .And (b::rest) pos) tb):PE X (.BoolOp .And (a::b::rest) pos) (VZ ta tb):=by
 intro pins s σ H Q I h;refine BoolOp_and (dz (ha pins s σ H _ I h) fun v s1 ⟨x,H1,I1,r1,q1⟩=>?_);obtain⟨c,rfl,q1⟩:=q1;cases r1;refine wpAny_truthy_bool ?_;cases c with
 | true=>exact hb pins s1 σ H1 Q I1 q1
 | false=>exact⟨.bl false,H1,I1,rfl,q1⟩
theorem AR (ha:PE X a ta) (hb:PE X (.BoolOp .Or (b::rest) pos) tb):PE X (.BoolOp .Or (a::b::rest) pos) (Yu ta tb):=by
 intro pins s σ H Q I h;refine BoolOp_or (dz (ha pins s σ H _ I h) fun v s1 ⟨x,H1,I1,r1,q1⟩=>?_);obtain⟨c,rfl,q1⟩:=q1;cases r1;refine wpAny_truthy_bool ?_;cases c with
 | false=>exact hb pins s1 σ H1 Q I1 q1
 | true=>exact⟨.bl true,H1,I1,rfl,q1⟩
theorem pO (ha:PE X a ta):PE X (.UnaryOp .Not a pos) (V0 ta):=by
 intro pins s σ H Q I h;refine UnaryOp_ (dz (ha pins s σ H _ I h) fun v s1 ⟨x,H1,I1,r1,q1⟩=>?_);obtain⟨c,rfl,q1⟩:=q1;cases r1;exact not_of (wpAny_truthy_bool ⟨.bl (!c),H1,I1,rfl,q1⟩)
def tIf (t:TT) (ta tb:TE):TE:=fun σ H Q=>t σ H fun c H1=>if c=true then ta σ H1 Q else tb σ H1 Q
theorem b9 {c:Expr} (hc:PT X c tA) (ha:PE X a ta) (hb:PE X b tb):PE X (.IfExp c a b pos) (tIf tA ta tb):=by
 intro pins s σ H Q I h;refine wpAny_IfExp (dz (hc pins s σ H _ I h) fun d s1 ⟨H1,I1,q1⟩=>?_);cases d with
 | true=>exact ha pins s1 σ H1 Q I1 q1
 | false=>exact hb pins s1 σ H1 Q I1 q1
end
end L2
namespace L2
open PySem PySem.Spec PyProof.Rows
def bU (K:aP) (H:Hp) (a:Addr) (xs:List V):Prop :=
 Rd H a (.lst xs) ∨
  ∃(o:Obj) (bq:Array Value) (n:Nat),K.lookup a=some o∧o.cls=.type "list"∧o.dict=none∧o.data=.seq bq n∧bq.size≤sizeLine∧Vals xs bq.toList
def j3 (K:aP) (H:Hp) (a:Addr) (xs:List V):Prop :=
 Rd H a (.tup xs) ∨
  ∃(o:Obj) (bq:Array Value) (n:Nat),K.lookup a=some o∧o.cls=.type "tuple"∧o.data=.seq bq n∧bq.size≤sizeLine∧Vals xs bq.toList
def Yv:Value→Option V
 | .none=>some .fU
 | .bool b=>some (.bl b)
 | .int i _=>some (.int i)
 | .str x _=>some (.str x)
 | .bytes b _=>some (.tN b)
 | .float b _=>some (.Su b)
 | .ref a=>some (.ref a)
 | .type n=>some (.ty n)
 | _=>none
theorem RelV.abs {x:V} {u:Value} (r:RelV x u):Yv u=some x:=by
 cases x with
 | fU=>cases r;rfl
 | bl _=>cases r;rfl
 | int _=>obtain⟨t,rfl⟩:=r;rfl
 | str _=>obtain⟨t,rfl⟩:=r;rfl
 | tN _=>obtain⟨t,rfl⟩:=r;rfl
 | Su _=>obtain⟨t,rfl⟩:=r;rfl
 | ref _=>cases r;rfl
 | ty _=>cases r;rfl
theorem RelV.inj {x y:V} {u:Value} (r:RelV x u) (q:RelV y u):x=y:=bM (r.abs.symm.trans q.abs)
theorem Vals.inj:∀{xs ys:List V} {us:List Value},Vals xs us→Vals ys us→xs=ys
 | _,_,_,.nil,.nil=>rfl
 | _,_,_,.cons r t,.cons r' t'=>by rw[r.inj r',Vals.inj t t']
section
variable {X:Cx} {pins:List (Addr×Obj)} {σ:St} {H:Hp} {s:Shared} {a:Addr} {xs ys:List V}
theorem bU.of {K:aP} (h:H a=some (.lst xs)):bU K H a xs:=.inl (.inl h)
theorem j3.of {K:aP} (h:H a=some (.tup xs)):j3 K H a xs:=.inl (.inl h)
theorem Inv.list (I:Inv X pins σ H s) (h:bU X.K H a xs):∃bq:List Value,Vals xs bq∧PlainL s.heap a bq.toArray∧xs.length≤sizeLine:=by
 rcases h with h | ⟨o,bq,n,hk,hc,hd,hs,hz,r⟩
 ·obtain⟨z,bq,n,r,e⟩:=h.ok I.dr;exact⟨bq,r,⟨_,n,e,rfl,rfl,rfl⟩,z⟩
 ·refine⟨bq.toList,r,⟨o,n,I.qM a o hk,hc,hd,by simpa using hs⟩,?_⟩;have e:=r.length;simp only[yP] at e;omega
theorem Inv.tuple (I:Inv X pins σ H s) (h:j3 X.K H a xs):∃bq:List Value,Vals xs bq∧IsTup s.heap a bq.toArray∧xs.length≤sizeLine:=by
 rcases h with h | ⟨o,bq,n,hk,hc,hs,hz,r⟩
 ·obtain⟨z,bq,r,p⟩:=h.ok I.dr;exact⟨bq,r,p,z⟩
 ·refine⟨bq.toList,r,⟨o,I.qM a o hk,hc,n,by simpa using hs⟩,?_⟩;have e:=r.length;simp only[yP] at e;omega
theorem Inv.sF (I:Inv X pins σ H s) (h:bU X.K H a xs) (h':bU X.K H a ys):xs=ys:=by
 obtain⟨bq,r,⟨o,n,e,_,_,d⟩,_⟩:=I.list h;obtain⟨nF,r',⟨o',n',e',_,_,d'⟩,_⟩:=I.list h';rw[e] at e';cases e';rw[d] at d';injection d' with d1 _
 have:bq=nF:=by simpa using a7 Array.toList d1
 subst this;exact r.inj r'
theorem Inv.Kg (I:Inv X pins σ H s) (h:j3 X.K H a xs) (h':j3 X.K H a ys):xs=ys:=by
 obtain⟨bq,r,⟨o,e,_,n,d⟩,_⟩:=I.tuple h;obtain⟨nF,r',⟨o',e',_,n',d'⟩,_⟩:=I.tuple h';rw[e] at e';cases e';rw[d] at d';injection d' with d1 _
 have:bq=nF:=by simpa using a7 Array.toList d1
 subst this;exact r.inj r'
end
abbrev Cx.ug (X:Cx) (E:Value→Shared→Prop):Cx:={ X with xe:=E }
abbrev Cx.vE (X:Cx):Cx:=X.ug fun _ _=>False
theorem Cx.Ok.ug {X:Cx} (ok:X.Ok) (E:Value→Shared→Prop):(X.ug E).Ok :=
 ⟨ok.mod,ok.kind,ok.glob,ok.blt,ok.above,ok.inj,ok.has,ok.Hm,ok.hd,ok.frames,ok.Kd,ok.AL,ok.bs,ok.zp,ok.yC,ok.yD,ok.mn,ok.DJ⟩
theorem Cx.Ok.nG {X:Cx} {E:Value→Shared→Prop} (ok:(X.ug E).Ok):X.Ok :=
 ⟨ok.mod,ok.kind,ok.glob,ok.blt,ok.above,ok.inj,ok.has,ok.Hm,ok.hd,ok.frames,ok.Kd,ok.AL,ok.bs,ok.zp,ok.yC,ok.yD,ok.mn,ok.DJ⟩
section
variable {X:Cx} {pins:List (Addr×Obj)} {σ:St} {H:Hp} {s:Shared} {E:Value→Shared→Prop}
theorem Inv.ug (I:Inv X pins σ H s) (E:Value→Shared→Prop):Inv (X.ug E) pins σ H s:=⟨I.ok.ug E,I.os,I.bare,I.base,I.loc,I.cell,I.free,I.j8,I.pin,I.dr,I.len⟩
theorem Inv.nG (I:Inv (X.ug E) pins σ H s):Inv X pins σ H s:=⟨I.ok.nG,I.os,I.bare,I.base,I.loc,I.cell,I.free,I.j8,I.pin,I.dr,I.len⟩
theorem SP.nG {D:Ends} {f:Flow} {s':Shared} (h:SP (X.ug E) pins D f s'):SP X pins D f s':=by
 cases f with
 | next=>obtain⟨σ',H',I,q⟩:=h;exact⟨σ',H',I.nG,q⟩
 | brk=>obtain⟨σ',H',I,q⟩:=h;exact⟨σ',H',I.nG,q⟩
 | cont=>obtain⟨σ',H',I,q⟩:=h;exact⟨σ',H',I.nG,q⟩
 | ret u=>obtain⟨v,σ',H',I,r,q⟩:=h;exact⟨v,σ',H',I.nG,r,q⟩
theorem qN.vE {st:List Stmt} {t:TS} (h:qN X.vE st t):qN X st t:=fun pins s σ H D I hw =>
 wpAny_mono (h pins s σ H D (I.ug _) hw) (fun _ _ q=>q.nG) fun _ _ z=>False.elim z
end
section
variable {X:Cx} {st:Stmt} {rest:List Stmt} {t u:TS} {e:Expr} {te:TE} {pos:Pos}
def Kh:TS:=fun D σ H=>D.nx σ H
def Ends.on (D:Ends) (u:TS):Ends:={ D with nx:=u D }
def Pl (t u:TS):TS:=fun D σ H=>t (D.on u) σ H
theorem aB:qN X [] Kh:=fun _ _ σ H _ I h=>wpAny_execs_nil ⟨σ,H,I,h⟩
theorem ah (h1:PS X st t) (h2:qN X rest u):qN X (st::rest) (Pl t u):=by
 intro pins s σ H D I h;refine wpAny_execs_cons (dz (h1 pins s σ H (D.on u) I h) fun f s1 q=>?_);cases f with
 | next =>
  obtain⟨σ',H',I',q⟩:=q;exact h2 pins s1 σ' H' D I' q
 | ret v=>exact q
 | brk=>exact q
 | cont=>exact q
theorem aj (h1:PS X st t):qN X [st] t:=by
 intro pins s σ H D I h;refine wpAny_execs_cons (dz (h1 pins s σ H D I h) fun f s1 q=>?_);cases f with
 | next=>exact wpAny_execs_nil q
 | ret v=>exact q
 | brk=>exact q
 | cont=>exact q
theorem Inv.quiet {pins:List (Addr×Obj)} {σ:St} {H:Hp} {s:Shared} (I:Inv X pins σ H s):interactive X.env=false:=by simp[interactive,I.ok.kind]
def V1 (te:TE):TS:=fun D σ H=>te σ H fun _ H1=>D.nx σ H1
theorem mq (he:PE X e te) (hs:swapsWith e none pos.line X.env=pure false:=by rfl):PS X (.Expr e pos) (V1 te):=by
 intro pins s σ H D I h;exact wpAny_Expr_any (dz (he pins s σ H _ I h) fun v s1 ⟨x,H1,I1,r1,q1⟩=>⟨σ,H1,I1,q1⟩) I.quiet hs
def Yw (te:TE):TS:=fun D σ H=>te σ H D.rt
theorem aq (he:PE X e te):PS X (.Return (some e) pos) (Yw te):=by
 intro pins s σ H D I h;exact wpAny_Return_some (dz (he pins s σ H _ I h) fun v s1 ⟨x,H1,I1,r1,q1⟩=>⟨x,σ,H1,I1,r1,q1⟩)
def Pn (c:TT) (t u:TS):TS:=fun D σ H=>c σ H fun b H1=>if b=true then t D σ H1 else u D σ H1
theorem aS {c:Expr} {a b:List Stmt} {tc:TT} (hc:PT X c tc) (ha:qN X a t) (hb:qN X b u):PS X (.If c a b pos) (Pn tc t u):=by
 intro pins s σ H D I h;refine wpAny_If (dz (hc pins s σ H _ I h) fun d s1 ⟨H1,I1,q1⟩=>?_);cases d with
 | true=>exact ha pins s1 σ H1 D I1 q1
 | false=>exact hb pins s1 σ H1 D I1 q1
end
abbrev TG:=V→St→Hp→(St→Hp→Prop)→Prop
abbrev Ht:=List V→St→Hp→(St→Hp→Prop)→Prop
def PG (X:Cx) (target:Expr) (t:TG):Prop :=
 ∀(pins:List (Addr×Obj)) (s:Shared) (σ:St) (H:Hp) (v:V) (u:Value) (Q:St→Hp→Prop),Inv X pins σ H s→RelV v u→t v σ H Q →
  wpAny (model X.prog X.w) X.A (assign target X.env u) (fun _ s'=>∃σ' H',Inv X pins σ' H' s'∧Q σ' H') X.xe s
def Po (X:Cx) (ts:List Expr) (t:Ht):Prop :=
 ∀(pins:List (Addr×Obj)) (s:Shared) (σ:St) (H:Hp) (vs:List V) (us:List Value) (Q:St→Hp→Prop),Inv X pins σ H s→Vals vs us→t vs σ H Q →
  wpAny (model X.prog X.w) X.A (assignInOrder ((assignEach ts X.env).map (·.2)) us) (fun _ s'=>∃σ' H',Inv X pins σ' H' s'∧Q σ' H') X.xe s
abbrev Pp:=V→V→V→Hp→(Hp→Prop)→Prop
def Vg (X:Cx) (t:Pp):Prop :=
 ∀(pins:List (Addr×Obj)) (s:Shared) (σ:St) (H:Hp) (o i v:V) (ov iv u:Value) (Q:Hp→Prop),Inv X pins σ H s→RelV o ov→RelV i iv→RelV v u→t o i v H Q →
  wpAny (model X.prog X.w) X.A (setItem ov iv u) (fun _ s'=>∃H',Inv X pins σ H' s'∧Q H') X.xe s
section
variable {X:Cx} {pos:Pos}
def AS (i:Nat):TG:=fun v σ H Q=>Q (σ.set i (some v)) H
theorem eK {i:Nat} {x:Str} (hN:X.N.Nodup) (hi:X.N[i]?=some x) (hx:Loc X.env.scope x) (hf:X.fn x=true∨X.env.scope.names.lookup x=some .local:=by first | exact .inl rfl | exact .inr rfl | assumption):PG X (.Name x pos) (AS i):=by
 intro pins s σ H v u Q I r h;exact wpAny_assign_Name (EI I hN hi hx r (fun s' I'=>⟨_,H,I',h⟩) hf)
def Yx:Ht:=fun vs σ H Q=>vs=[]∧Q σ H
def V2 (t:TG) (u:Ht):Ht:=fun vs σ H Q=>∃v r,vs=v::r∧t v σ H fun σ' H'=>u r σ' H' Q
theorem rd:Po X [] Yx:=by
 intro pins s σ H vs us Q I r h;obtain⟨e,h⟩:=h;subst e;cases r;exact assignInOrder_nil ⟨σ,H,I,h⟩
theorem iR {e:Expr} {es:List Expr} {t:TG} {u:Ht} (h1:PG X e t) (h2:Po X es u)
  (hs:(assignEach (e::es) X.env).map (·.2)=assign e X.env::(assignEach es X.env).map (·.2):=by rfl):Po X (e::es) (V2 t u):=by
 intro pins s σ H vs us Q I r h;obtain⟨v,vr,e1,h⟩:=h;subst e1;cases r with
 | cons r rr =>
  rw[hs];refine assignInOrder_cons (dz (h1 pins s σ H _ _ _ I r h) fun _ s1 ⟨σ1,H1,I1,q1⟩=>?_);exact h2 pins s1 σ1 H1 _ _ Q I1 rr q1
def Vh (K:aP) (n:Nat) (t:Ht):TG:=fun v σ H Q=>∃a xs,v=.ref a∧j3 K H a xs∧xs.length=n∧t xs σ H Q
theorem Aj {es:List Expr} {k:Nat} {t:Ht} {n:Nat} (hc:X.calm=true) (h:Po X es t)
  (hn:(assignEach es X.env).length=n:=by rfl) (qO:(assignEach es X.env).findIdx? (·.1)=none:=by rfl):PG X (.Tuple es k pos) (Vh X.K n t):=by
 intro pins s σ H v u Q I r hw;obtain⟨a,xs,e1,hq,hl,hw⟩:=hw;subst e1;cases r;obtain⟨bq,rv,ht,hz⟩:=I.tuple hq;refine assign_Tuple_tuple (I.ok.hd hc) ht (by simp[hn,←hl,rv.length]) qO fun h' hx=>?_;have I1:Inv X pins σ H { s with heap:=h' }:=I.kept (t':=s.toks) fun b o e=>hx b o (dI (Heap.lt_size e)) e;exact h pins _ σ H xs _ Q I1 (by simpa using rv) hw
def Yy (to ti:TE) (t:Pp):TG:=fun v σ H Q=>to σ H fun o H1=>ti σ H1 fun i H2=>t o i v H2 fun H3=>Q σ H3
theorem Mb {o i:Expr} {to ti:TE} {t:Pp} (ho:PE X o to) (hi:PE X i ti) (hs:Vg X t)
  (ha:∀v,assign (.Subscript o i pos) X.env v=(do
   let ov ←holding [v] (eval o X.env);let iv ←holding [v,ov] (eval i X.env)
   standAt pos
   holding [v,ov,iv] (setItem ov iv v)
   release [v,ov,iv] []):=by intro _;rfl):PG X (.Subscript o i pos) (Yy to ti t):=by
 intro pins s σ H v u Q I r h;rw[ha];refine wpAny_bind (wpAny_holding (dz (ho pins s σ H _ I h) fun ov s1 ⟨x,H1,I1,r1,q1⟩=>?_));refine wpAny_bind (wpAny_holding (dz (hi pins s1 σ H1 _ I1 q1) fun iv s2 ⟨y,H2,I2,r2,q2⟩=>?_));refine wpAny_bind (wpAny_standAt (wpAny_bind (wpAny_holding (dz (hs pins s2 σ H2 x y v ov iv u _ I2 r1 r2 r q2) fun _ s3 ⟨H3,I3,q3⟩=>?_))));exact wpAny_release ⟨σ,H3,I3,q3⟩
def Mc (te:TE) (g:TG):TS:=fun D σ H=>te σ H fun x H1=>g x σ H1 D.nx
theorem Md {tg e:Expr} {te:TE} {g:TG} (he:PE X e te) (hg:PG X tg g) (hs:swapsWithSole [tg] e pos.line X.env=pure false:=by rfl) (hw:swappedStores [tg] e X.env=pure none:=by rfl)
  (h1:(assignEach [tg] X.env).map (·.2)=[assign tg X.env]:=by rfl):PS X (.Assign [tg] e pos) (Mc te g):=by
 intro pins s σ H D I h;refine wpAny_Assign_stores (dz (he pins s σ H _ I h) fun v s1 ⟨x,H1,I1,r1,q1⟩=>?_) hs hw;rw[h1];exact dz (hg pins s1 σ H1 x v _ I1 r1 q1) fun _ s2 q=>q
theorem SG {i:Nat} {x:Str} {e:Expr} {te:TE} {pos':Pos} (hN:X.N.Nodup) (hi:X.N[i]?=some x) (hx:Loc X.env.scope x) (he:PE X e te) (hs:swapsWith e (some (.Name x pos')) pos.line X.env=pure false:=by rfl) (hf:X.fn x=true∨X.env.scope.names.lookup x=some .local:=by first | exact .inl rfl | exact .inr rfl | assumption) :
  PS X (.Assign [.Name x pos'] e pos) (Mc te (AS i)):=by
 intro pins s σ H D I h;refine wpAny_Assign_Name (dz (he pins s σ H _ I h) fun v s1 ⟨y,H1,I1,r1,q1⟩=>?_) hs;exact EI I1 hN hi hx r1 (fun s2 I2=>⟨_,H1,I2,q1⟩) hf
end
section
variable {X:Cx} {pos:Pos}
def Me (c:TT) (tb:TS):TS:=fun D σ H=>∃W:Nat→St→Hp→Prop,(∃m,W m σ H)∧∀m σ H,W m σ H →
 c σ H fun b H1=>if b=true then ∃N:St→Hp→Prop,(∀σ' H',N σ' H'→∃m',m'<m∧W m' σ' H')∧tb { D with nx:=N,ct:=N,bk:=D.nx } σ H1 else D.nx σ H1
theorem jO {c:Expr} {body:List Stmt} {tc:TT} {tb:TS} (hp:PassesOwn (model X.prog X.w) X.A X.env X.xe) (hc:PT X c tc) (hb:qN X body tb):PS X (.While c body [] pos) (Me tc tb):=by
 intro pins s σ H D I h;obtain⟨W,⟨m0,w0⟩,turn⟩:=h;refine wpAny_While (codeAny_whileLoop (fun n s'=>∃σ' H',Inv X pins σ' H' s'∧W n σ' H') ?_ m0 ⟨σ,H,I,w0⟩);rintro n s1 ⟨σ1,H1,I1,w1⟩;refine wpAny_passesOwn hp (dz (hc pins s1 σ1 H1 _ I1 (turn n σ1 H1 w1)) fun b s2 ⟨H2,I2,q2⟩=>?_);cases b with
 | true =>
  obtain⟨N,hN,q2⟩:=q2;rw[ao rfl];refine wpAny_passesOwn hp (dz (hb pins s2 σ1 H2 _ I2 q2) fun f s3 q3=>?_);cases f with
  | next =>
   obtain⟨σ3,H3,I3,n3⟩:=q3;obtain⟨m',hm,w3⟩:=hN σ3 H3 n3;exact⟨m',hm,σ3,H3,I3,w3⟩
  | cont =>
   obtain⟨σ3,H3,I3,n3⟩:=q3;obtain⟨m',hm,w3⟩:=hN σ3 H3 n3;exact⟨m',hm,σ3,H3,I3,w3⟩
  | brk=>exact q3
  | ret v=>exact q3
 | false =>
  rw[ag dA];exact wpAny_execs_nil ⟨σ1,H2,I2,q2⟩
end
structure It where
 go:Nat→Hp→Prop
 Ki:Nat→Hp→V→Hp→Prop
 stop:Nat→Hp→Prop
def qC (X:Cx) (pins:List (Addr×Obj)) (H:Hp) (b:Addr):Prop :=
 H b=none∧b≠X.env.locals∧b∉X.fs∧(b∈X.ex∨X.oJ.heap.objs.size≤b)∧(∀x c,X.env.cells.lookup x=some c→c≠b)∧∀p∈X.pn++pins,p.1≠b
theorem Inv.EJ {X:Cx} {pins:List (Addr×Obj)} {σ:St} {H H':Hp} {s:Shared} {b:Addr} (I:Inv X pins σ H s) (hb:s.heap.objs.size≤b) (hn:H' b=none):qC X pins H' b:=by
 refine⟨hn,Nat.ne_of_gt (b5 I.lt hb),I.Yl hb,.inr (bZ I.sz hb),fun x c e z=>?_,fun p hp z=>?_⟩
 ·obtain⟨v,q⟩:=I.cell x c e;exact absurd (b5 q.lt (by rw[z];exact hb)) (i6 _)
 ·exact absurd (b5 (Heap.lt_size (I.pin p hp).1) (by rw[z];exact hb)) (i6 _)
structure Turn (P:Program) (w:World) (K:aP) (tg:Expr) (J:It) (fp:List Addr) (it:Addr) (tn:Nat→Heap→Prop):Prop where
 mem:it∈fp
 obj:∀i h,tn i h→∀b∈fp,∃o,h.get? b=some o∧∀v,o.data≠.cell v
 keep:∀i h h',tn i h→(∀b∈fp,∀o,h.get? b=some o→h'.get? b=some o)→tn i h'
 item:∀(X:Cx),X.prog=P→X.w=w→X.K=K→X.calm=true→∀(i:Nat) (pins:List (Addr×Obj)) (s:Shared) (σ:St) (H:Hp) (E:Value→Shared→Prop),Inv X pins σ H s→(∀b∈fp,qC X pins H b)→tn i s.heap→J.go i H →
  wpAny (model P w) X.A (pyNext (.ref it)) (fun r s1=>∃u,r=some u ∧
   wpAny (model P w) X.A (letOwnedTupleGo tg (.ref it) u) (fun _ s2=>∃x H',Inv X pins σ H' s2∧RelV x u∧J.Ki i H x H'∧tn (i+1) s2.heap∧∀b∈fp,H' b=none) E s1) E s
 done:∀(X:Cx),X.prog=P→X.w=w→X.K=K→X.calm=true→∀(i:Nat) (pins:List (Addr×Obj)) (s:Shared) (σ:St) (H:Hp) (E:Value→Shared→Prop),Inv X pins σ H s→(∀b∈fp,qC X pins H b)→tn i s.heap→J.stop i H →
  wpAny (model P w) X.A (pyNext (.ref it)) (fun r s1=>r=none∧Inv X pins σ H s1) E s
 self:∀(A:Around) (i:Nat) (s:Shared) (Q:Value→Shared→Prop) (E:Value→Shared→Prop),tn i s.heap→Q (.ref it) s→wpAny (model P w) A (pyIter (.ref it)) Q E s
abbrev TI:=St→Hp→(It→Hp→Prop)→Prop
def V4 (X:Cx) (pins:List (Addr×Obj)) (σ:St) (tg:Expr) (R:It→Hp→Prop) (V5:Value) (s2:Shared):Prop :=
 ∃(it:Addr) (fp:List Addr) (tn:Nat→Heap→Prop) (J:It) (H':Hp),V5=.ref it∧Inv X pins σ H' s2∧Turn X.prog X.w X.K tg J fp it tn∧tn 0 s2.heap∧(∀b∈fp,qC X pins H' b)∧R J H'
def PI (X:Cx) (tg iter:Expr) (wi:TI):Prop :=
 ∀(pins:List (Addr×Obj)) (s:Shared) (σ:St) (H:Hp) (R:It→Hp→Prop),Inv X pins σ H s→wi σ H R →
  wpAny (model X.prog X.w) X.A (eval iter X.env) (fun v s1=>wpAny (model X.prog X.w) X.A (pyIter v) (V4 X pins σ tg R) X.xe s1) X.xe s
theorem AU {M:Model} {A:Around} {E:Value→Shared→Prop} {s:Shared} {tg:Expr} {it:Addr} {u:Value} {o:Obj} {n:String} {vs:Array Value} {Q:Unit→Shared→Prop} (ho:s.heap.get? it=some o) (hc:o.cls=.type n) (hd:o.data=.fields vs)
  (hn:["enumerate","zip","dict_itemiterator","dict_reverseitemiterator","odict_iterator","itertools.zip_longest","itertools.pairwise"].contains n=false) (hQ:Q () s):wpAny M A (letOwnedTupleGo tg (.ref it) u) Q E s:=by
 unfold letOwnedTupleGo;cases tg<;>first
  | exact wpAny_pure hQ
  | (cases u<;>first
   | exact wpAny_pure hQ
   | (refine wpAny_bind (wpAny_load ho ?_);rw[hc,hd];show wpAny M A (if (["enumerate","zip","dict_itemiterator","dict_reverseitemiterator","odict_iterator","itertools.zip_longest","itertools.pairwise"].contains n&&vs[0]?==some (rawInt _))=true then _ else _) Q E s;rw[ag (by intro h;rw[hn,ib] at h;cases h)];exact wpAny_pure hQ))
def Yz (K:aP) (a:Addr):It :=
 ⟨fun i H=>∃xs x,bU K H a xs∧xs[i]?=some x,fun i H x H'=>H'=H∧∀xs,bU K H a xs→xs[i]?=some x,fun i H=>∃xs,bU K H a xs∧xs.length≤i⟩
def V6 (lo:Int) (n:Nat):It:=⟨fun i _=>i<n,fun i H x H'=>H'=H∧x=.int (lo+i),fun i _=>n≤i⟩
theorem Kj {P:Program} {w:World} {K:aP} {tg:Expr} (a it:Addr):Turn P w K tg (Yz K a) [it] it (fun i h=>h.IsListIter it a i) where
 mem:=by simp
 obj:=fun i h st b hb=>by
  have e:b=it:=by simpa using hb
  subst e;obtain⟨o,e,c,d⟩:=st;exact⟨o,e,fun v z=>by rw[d] at z;cases z⟩
 keep:=fun i h h' st k=>st.at fun o e=>k it (by simp) o e
 item:=by
  intro X hP hw hK hc i pins s σ H E I hf st hg;subst hP hw hK;obtain⟨xs,x,hq,hx⟩:=hg;obtain⟨bq,rv,p,hz⟩:=I.list hq;obtain⟨u,hu,ru⟩:=rv.get hx;obtain⟨f0,f1,f2,f3,f4,f5⟩:=hf it (by simp);refine wpAny_pyNext_list_item st p.isList (x:=u) (by simpa using hu) fun h' qP sb=>?_;have I1:Inv X pins σ H { s with heap:=h' }:=I.turned (t':=s.toks) (fun b o hb e=>(sb.2 b hb).trans e) f0 f1 f3 f4 f5;obtain⟨o,e,c,d⟩:=id qP;exact⟨u,rfl,AU (s:={ s with heap:=h' }) e c d J9 ⟨x,H,I1,ru,⟨rfl,fun ys hy=>by rw[I.sF hy hq];exact hx⟩,qP,fun b hb=>(hf b hb).1⟩⟩
 done:=by
  intro X hP hw hK hc i pins s σ H E I hf st hg;subst hP hw hK;obtain⟨xs,hq,hx⟩:=hg;obtain⟨bq,rv,p,hz⟩:=I.list hq;obtain⟨f0,f1,f2,f3,f4,f5⟩:=hf it (by simp);have hl:=rv.length;exact wpAny_pyNext_list_end (I.ok.hd hc) st p.isList (by simp;omega) fun h' eb=>⟨rfl,I.turned (t':=s.toks) (fun b o hb e=>eb b o hb e) f0 f1 f3 f4 f5⟩
 self:=fun _ _ _ _ _ st h=>wpAny_pyIter_listiter st h
theorem Hv {P:Program} {w:World} {K:aP} {tg:Expr} (it:Addr) (lo:Int) (n:Nat):Turn P w K tg (V6 lo n) [it] it (fun i h=>IsRangeIter h it (lo+(i:Nat)*1) ((n:Int)-(i:Nat)) 1) where
 mem:=by simp
 obj:=fun i h st b hb=>by
  have e:b=it:=by simpa using hb
  subst e;exact⟨_,st,fun v z=>by
   have z':Data.fields _=Data.cell v:=z;cases z'⟩
 keep:=fun i h h' st k=>k it (by simp) _ st
 item:=by
  intro X hP hw hK hc i pins s σ H E I hf st hg;subst hP hw hK;obtain⟨f0,f1,f2,f3,f4,f5⟩:=hf it (by simp);have W:=Walks.range (prog:=X.prog) (w:=X.w) (I.ok.hd hc) it lo 1 n;refine W.item i s _ _ hg st fun v h' tk hv qP kk=>?_;obtain⟨t,rfl⟩:=hv;have I1:Inv X pins σ H { s with heap:=h',toks:=tk }:=I.turned (fun b o hb e=>kk b o (by simpa using hb) e) f0 f1 f3 f4 f5;refine⟨_,rfl,AU (s:={ s with heap:=h',toks:=tk }) (n:="range_iterator") qP rfl rfl J9 ⟨.int (lo+i),H,I1,⟨t,?_⟩,⟨rfl,rfl⟩,qP,fun b hb=>(hf b hb).1⟩⟩;rw[Int.mul_one]
 done:=by
  intro X hP hw hK hc i pins s σ H E I hf st hg;subst hP hw hK;obtain⟨f0,f1,f2,f3,f4,f5⟩:=hf it (by simp);exact wpAny_pyNext_range_end (I.ok.hd hc) st (by have:n≤i:=hg;omega) fun h' eb=>⟨rfl,I.turned (t':=s.toks) (fun b o hb e=>eb b o hb e) f0 f1 f3 f4 f5⟩
 self:=fun _ _ _ _ _ st h=>wpAny_pyIter_rangeiter st h
end L2
namespace L2
open PySem PySem.Spec PyProof.Rows
section
variable {X:Cx} {tg:Expr}
def V7 (K:aP) (tl:TE):TI:=fun σ H R=>tl σ H fun x H1=>∃a,x=.ref a∧(∃xs,bU K H1 a xs)∧R (Yz K a) H1
theorem oO {l:Expr} {tl:TE} (hl:PE X l tl):PI X tg l (V7 X.K tl):=by
 intro pins s σ H R I h;refine dz (hl pins s σ H _ I h) fun v s1 ⟨x,H1,I1,r1,q1⟩=>?_;obtain⟨a,e,⟨xs,hq⟩,q⟩:=q1;subst e;cases r1;obtain⟨bq,rv,p,hz⟩:=I1.list hq;refine wpAny_pyIter_list p.isList ?_;refine⟨s1.heap.objs.size,[s1.heap.objs.size],_,_,H1,rfl,I1.kept (t':=s1.toks) fun b o e=>Heap.get?_push_of_some _ e,Kj a _,⟨_,Heap.get?_push_size _ rfl,rfl,rfl⟩,fun b hb=>?_,q⟩;have e:b=s1.heap.objs.size:=by simpa using hb
 subst e;exact I1.EJ (bB _) (I1.dr.fresh (bB _))
theorem Ng {pins:List (Addr×Obj)} {σ:St} {H:Hp} {s:Shared} {R:It→Hp→Prop} {E:Value→Shared→Prop} {lo hi:Int} {t u v:Tok} {tk:Nat} (I:Inv X pins σ H s) (h1:-(2^62)≤lo) (h2:lo<2^62) (h3:-(2^62)≤hi) (h4:hi<2^62)
  (q:R (V6 lo (hi-lo).toNat) H):wpAny (model X.prog X.w) X.A (pyIter (.ref s.heap.objs.size)) (V4 X pins σ tg R) E { s with heap:=s.heap.push { cls:=.type "range",data:=.fields #[.int lo t,.int hi u,.int 1 v] },toks:=tk }:=by
 refine wpAny_pyIter_range (IsRange.new ..) (small_one h1 h2 h3 h4) ?_;have I1:Inv X pins σ H { s with heap:=s.heap.push { cls:=.type "range",data:=.fields #[.int lo t,.int hi u,.int 1 v] },toks:=tk }:=I.kept fun b o e=>Heap.get?_push_of_some _ e;refine⟨(s.heap.push { cls:=.type "range",data:=.fields #[.int lo t,.int hi u,.int 1 v] }).objs.size,[(s.heap.push { cls:=.type "range",data:=.fields #[.int lo t,.int hi u,.int 1 v] }).objs.size],_,_,H,rfl,
  I1.kept (t':=tk) fun b o e=>Heap.get?_push_of_some _ e,Hv _ lo (hi-lo).toNat,?_,fun b hb=>?_,q⟩
 ·have e1:lo+((0:Nat):Int)*1=lo:=by simp
  have e2:(((hi-lo).toNat:Nat):Int)-((0:Nat):Int)=Builtin.Range.rangeSize lo hi 1:=by rw[rangeSize_one];split<;>omega
  show IsRangeIter _ _ (lo+((0:Nat):Int)*1) ((((hi-lo).toNat:Nat):Int)-((0:Nat):Int)) 1;rw[e1,e2];exact Heap.get?_push_size _ rfl
 ·have e:b=(s.heap.push { cls:=.type "range",data:=.fields #[.int lo t,.int hi u,.int 1 v] }).objs.size:=by simpa using hb
  subst e;exact I1.EJ (bB _) (I1.dr.fresh (bB _))
def V8 (ta:TA):TI:=fun σ H R=>ta σ H fun vs H1=>∃j:Int,vs=[.int j]∧-(2^62)≤j∧j<2^62∧R (V6 0 j.toNat) H1
theorem uB {a:Expr} {ta:TA} {p pos:Pos} (hg:Gl X "range") (hm:X.mg "range"=none) (ha:PA X [a] ta) (hs:starEach [a] X.env=[(false,eval a X.env)]:=by rfl):PI X tg (.Call (.Name "range" p) [a] [] pos) (V8 ta):=by
 intro pins s σ H R I h;refine Call_ (sE I hg hm boot_range (tR (dz (ha pos pins s σ H _ I h) fun us s1 ⟨vs,H1,I1,r1,q1⟩=>?_) hs rfl));obtain⟨j,e,q1,q2,q⟩:=q1;subst e;cases r1 with
 | cons r rr =>
  cases rr;obtain⟨t,rfl⟩:=r;exact call_range_1 (Ng I1 Kf Kf q1 q2 (by simpa using q))
def YA (wi:TI) (g:TG) (tb:TS):TS:=fun D σ H=>wi σ H fun J H1=>∃W:Nat→Nat→St→Hp→Prop,(∃m,W 0 m σ H1)∧∀i m σ H,W i m σ H →
 (J.stop i H∧D.nx σ H)∨(J.go i H∧∃N:St→Hp→Prop,(∀σ' H',N σ' H'→∃m',m'<m∧W (i+1) m' σ' H')∧∀x H',J.Ki i H x H'→g x σ H' fun σ2 H2=>tb { D with nx:=N,ct:=N,bk:=D.nx } σ2 H2)
def vF (fp:List Addr) (h:Heap):List (Addr×Obj):=fp.filterMap fun b=>(h.get? b).map fun o=>(b,o)
theorem rf {fp:List Addr} {h:Heap} {b:Addr} {o:Obj} (hb:b∈fp) (e:h.get? b=some o):(b,o)∈vF fp h:=Ep.mpr ⟨b,hb,by rw[e];rfl⟩
theorem Kk {fp:List Addr} {h:Heap} {p:Addr×Obj} (hp:p∈vF fp h):p.1∈fp∧h.get? p.1=some p.2:=by
 obtain⟨b,hb,e⟩:=Ep.mp hp;cases q:h.get? b with
 | none=>rw[q] at e;cases e
 | some o =>
  rw[q] at e;have e':(b,o)=p:=bM e;subst e';exact⟨hb,q⟩
theorem Inv.pinned {pins:List (Addr×Obj)} {σ:St} {H:Hp} {s:Shared} {fp:List Addr} (I:Inv X pins σ H s) (hf:∀b∈fp,qC X pins H b) (ho:∀b∈fp,∃o,s.heap.get? b=some o∧∀v,o.data≠.cell v):Inv X (pins++vF fp s.heap) σ H s :=
 I.Ho fun p hp=>(pJ.mp hp).elim (fun z=>I.pin p (ke _ z)) fun z=>by
  obtain⟨hb,e⟩:=Kk z;obtain⟨f0,f1,f2,_⟩:=hf p.1 hb;obtain⟨o,e',d⟩:=ho p.1 hb;rw[e] at e';cases e';exact⟨e,f0,f1,f2,d⟩
theorem Inv.sG {pins pl:List (Addr×Obj)} {σ:St} {H:Hp} {s:Shared} (I:Inv X (pins++pl) σ H s):Inv X pins σ H s:=I.Ho fun p hp=>I.pin p (ke _ (yN _ hp))
theorem nJ {iter:Expr} {body:List Stmt} {wi:TI} {g:TG} {tb:TS} {pos:Pos} (hp:PassesOwn (model X.prog X.w) X.A X.env X.xe) (hc:X.calm=true) (hi:PI X tg iter wi) (hg:PG X tg g) (hb:qN X body tb)
  (hs:∀x,foldedSetIterable iter X.env x=pure x:=by intro _;rfl):PS X (.For tg iter body [] pos) (YA wi g tb):=by
 intro pins s σ H D I h;refine wpAny_For (dz (hi pins s σ H _ I h) fun v s1 h1=>dz h1 fun V5 s2 h2=>?_) hs;obtain⟨it,fp,tn,J,H2,e,I2,T,oP,f2,W,⟨m0,w0⟩,turn⟩:=h2;subst e;have AV:∀{H':Hp},(∀b∈fp,H' b=none)→∀b∈fp,qC X pins H' b:=fun hn b hb=>⟨hn b hb,(f2 b hb).2⟩;refine codeAny_forLoop_any (fun n s'=>∃i σ' H',Inv X pins σ' H' s'∧tn i s'.heap∧(∀b∈fp,H' b=none)∧W i n σ' H') ?_ m0 ⟨0,σ,H2,I2,oP,fun b hb=>(f2 b hb).1,w0⟩;rintro n s3 ⟨i,σ3,H3,I3,SI,YB,w3⟩;rcases turn i n σ3 H3 w3 with ⟨stop,qn⟩ | ⟨go,N,hN,step⟩
 ·refine wpAny_passesOwn hp (dz (T.done X rfl rfl rfl hc i pins s3 σ3 H3 X.xe I3 (AV YB) SI stop) fun r s4 ⟨hr,I4⟩=>?_);subst hr;exact wpAny_execs_nil ⟨σ3,H3,I4,qn⟩
 ·refine wpAny_passesOwn hp (dz (T.item X rfl rfl rfl hc i pins s3 σ3 H3 X.xe I3 (AV YB) SI go) fun r s4 ⟨u,hr,h4⟩=>?_);subst hr;refine wpAny_passesOwn hp (dz h4 fun _ s5 ⟨x,H5,I5,r5,y5,Nh,fr5⟩=>?_);have I5':=I5.pinned (AV fr5) (T.obj _ _ Nh);refine wpAny_passesOwn hp (dz (hg _ s5 σ3 H5 x u _ I5' r5 (step x H5 y5)) fun _ s6 ⟨σ6,H6,I6,q6⟩=>?_);refine wpAny_passesOwn hp (dz (hb _ s6 σ6 H6 _ I6 q6) fun f s7 q7=>?_);have again:∀{σ7:St} {H7:Hp},Inv X (pins++vF fp s5.heap) σ7 H7 s7→N σ7 H7→∃m,m<n∧∃i σ' H',Inv X pins σ' H' s7∧tn i s7.heap∧(∀b∈fp,H' b=none)∧W i m σ' H':=fun {σ7 H7} I7 n7=>by
   obtain⟨m',hm,w7⟩:=hN σ7 H7 n7;refine⟨m',hm,i+1,σ7,H7,I7.sG,T.keep _ _ _ Nh fun b hb o e=>(I7.pin (b,o) (ke _ (ke _ (rf hb e)))).1,fun b hb=>?_,w7⟩;obtain⟨o,e,d⟩:=T.obj _ _ Nh b hb;exact(I7.pin (b,o) (ke _ (ke _ (rf hb e)))).2.1
  cases f with
  | next=>obtain⟨σ7,H7,I7,n7⟩:=q7;exact again I7 n7
  | cont=>obtain⟨σ7,H7,I7,n7⟩:=q7;exact again I7 n7
  | brk=>obtain⟨σ7,H7,I7,q7⟩:=q7;exact⟨σ7,H7,I7.sG,q7⟩
  | ret v=>obtain⟨x7,σ7,H7,I7,r7,q7⟩:=q7;exact⟨x7,σ7,H7,I7.sG,r7,q7⟩
end
end L2
namespace L2
open PySem PySem.Spec PyProof.Rows
abbrev R2:=V→V→Hp→VK→Prop
def i7 (X:Cx) (f:Value→Value→Sem Value) (r:R2):Prop :=
 ∀(pins:List (Addr×Obj)) (s:Shared) (σ:St) (H:Hp) (x y:V) (v u:Value) (Q:VK),Inv X pins σ H s→RelV x v→RelV y u→r x y H Q →
  wpAny (model X.prog X.w) X.A (f v u) (EP X pins σ Q) X.xe s
def Wb (X:Cx) (f:Value→Sem Value) (r:V→Hp→VK→Prop):Prop :=
 ∀(pins:List (Addr×Obj)) (s:Shared) (σ:St) (H:Hp) (x:V) (v:Value) (Q:VK),Inv X pins σ H s→RelV x v→r x H Q →
  wpAny (model X.prog X.w) X.A (f v) (EP X pins σ Q) X.xe s
def pQ (X:Cx) (f:Value) (r:List V→Hp→VK→Prop):Prop :=
 ∀(pins:List (Addr×Obj)) (s:Shared) (σ:St) (H:Hp) (xs:List V) (us:List Value) (Q:VK),Inv X pins σ H s→Vals xs us→r xs H Q →
  wpAny (model X.prog X.w) X.A (call f us) (EP X pins σ Q) X.xe s
def Kl (r:R2) (ta tb:TE):TE:=fun σ H Q=>ta σ H fun x H1=>tb σ H1 fun y H2=>r x y H2 Q
def tUn (r:V→Hp→VK→Prop) (ta:TE):TE:=fun σ H Q=>ta σ H fun x H1=>r x H1 Q
def rI (C:Int→Int→Prop) (g:Int→Int→V):R2:=fun x y H Q=>∃i j,x=.int i∧y=.int j∧C i j∧Q (g i j) H
def AW (g:Int→Int→V):R2:=fun x y H Q=>∃i j,x=.int i∧y=.int j∧Q (g i j) H
def rU (g:Int→V):V→Hp→VK→Prop:=fun x H Q=>∃i,x=.int i∧Q (g i) H
section
variable {X:Cx} {a b c:Expr} {ta tb tc:TE} {pos:Pos}
theorem Pr (ha:PE X a ta) (hb:PE X b tb) {pins:List (Addr×Obj)} {s:Shared} {σ:St} {H:Hp} {R:V→V→Hp→Prop} (I:Inv X pins σ H s)
  (h:ta σ H fun x H1=>tb σ H1 fun y H2=>R x y H2) {Q:Value→Shared→Prop} {f:Value→Value→Sem Value}
  (hf:∀v u s2 x y H2,Inv X pins σ H2 s2→RelV x v→RelV y u→R x y H2→wpAny (model X.prog X.w) X.A (f v u) Q X.xe s2) :
  wpAny (model X.prog X.w) X.A (eval a X.env) (fun v s₁=>wpAny (model X.prog X.w) X.A (eval b X.env) (fun u s₂=>wpAny (model X.prog X.w) X.A (f v u) Q X.xe s₂) X.xe s₁) X.xe s:=by
 refine dz (ha pins s σ H _ I h) fun v s1 ⟨x,H1,I1,r1,q1⟩=>?_;refine dz (hb pins s1 σ H1 _ I1 q1) fun u s2 ⟨y,H2,I2,r2,q2⟩=>?_;exact hf v u s2 x y H2 I2 r1 r2 q2
theorem aH {op:Operator} {r:R2} (ho:i7 X (binaryOp op) r) (ha:PE X a ta) (hb:PE X b tb):PE X (.BinOp a op b pos) (Kl r ta tb):=by
 intro pins s σ H Q I h;exact wpAny_BinOp (Pr ha hb I h fun v u s2 x y H2 I2 rx ry q=>ho pins s2 σ H2 x y v u Q I2 rx ry q)
theorem iB {op:UnaryOp} {r:V→Hp→VK→Prop} (ho:Wb X (unaryOp op) r) (ha:PE X a ta):PE X (.UnaryOp op a pos) (tUn r ta):=by
 intro pins s σ H Q I h;exact UnaryOp_ (dz (ha pins s σ H _ I h) fun v s1 ⟨x,H1,I1,r1,q1⟩=>ho pins s1 σ H1 x v Q I1 r1 q1)
theorem Pt {f:Value→Value→Sem Value} {C:Int→Int→Prop} {g:Int→Int→Int}
  (rule:∀(i j:Int) (t u:Tok) (s:Shared) (Q:Value→Shared→Prop) (E:Value→Shared→Prop),C i j→Q (.int (g i j) s.toks) { s with toks:=s.toks+1 }→wpAny (model X.prog X.w) X.A (f (.int i t) (.int j u)) Q E s) :
  i7 X f (rI C fun i j=>.int (g i j)):=by
 intro pins s σ H x y v u Q I rx ry h;obtain⟨i,j,rfl,rfl,hc,q⟩:=h;obtain⟨t,rfl⟩:=rx;obtain⟨t',rfl⟩:=ry;exact rule i j t t' s _ _ hc ⟨.int (g i j),H,I.tok _,⟨_,rfl⟩,q⟩
theorem Pu {f:Value→Value→Sem Value} {g:Int→Int→Int}
  (rule:∀(i j:Int) (t u:Tok) (s:Shared) (Q:Value→Shared→Prop) (E:Value→Shared→Prop),Q (.int (g i j) s.toks) { s with toks:=s.toks+1 }→wpAny (model X.prog X.w) X.A (f (.int i t) (.int j u)) Q E s) :
  i7 X f (AW fun i j=>.int (g i j)):=by
 intro pins s σ H x y v u Q I rx ry h;obtain⟨i,j,rfl,rfl,q⟩:=h;obtain⟨t,rfl⟩:=rx;obtain⟨t',rfl⟩:=ry;exact rule i j t t' s _ _ ⟨.int (g i j),H,I.tok _,⟨_,rfl⟩,q⟩
theorem Mg {f:Value→Value→Sem Value} {g:Int→Int→Bool}
  (rule:∀(i j:Int) (t u:Tok) (s:Shared) (Q:Value→Shared→Prop) (E:Value→Shared→Prop),Q (.bool (g i j)) s→wpAny (model X.prog X.w) X.A (f (.int i t) (.int j u)) Q E s) :
  i7 X f (AW fun i j=>.bl (g i j)):=by
 intro pins s σ H x y v u Q I rx ry h;obtain⟨i,j,rfl,rfl,q⟩:=h;obtain⟨t,rfl⟩:=rx;obtain⟨t',rfl⟩:=ry;exact rule i j t t' s _ _ ⟨.bl (g i j),H,I,rfl,q⟩
theorem Hz (k:Nat):(0:Int)≤2^k:=by
 rw[two_pow_cast];exact fK _
theorem bX:i7 X (binaryOp .Add) (AW fun i j=>.int (i+j)):=Pu fun _ _ _ _ _ _ _ q=>add_int q
theorem dm:i7 X (binaryOp .Sub) (AW fun i j=>.int (i-j)):=Pu fun _ _ _ _ _ _ _ q=>sub_int q
theorem jE:i7 X (binaryOp .Mod) (rI (fun _ j=>0<j) fun i j=>.int (i%j)):=Pt fun i j _ _ _ _ _ hc q=>by
 have h1:(0:Int)<j:=hc;exact mod_int' Kf (by rw[Int.fmod_eq_emod_of_nonneg i Kf];exact q)
theorem Mh:i7 X (binaryOp .RShift) (rI (fun _ j=>0≤j) fun i j=>.int (i/2^j.toNat)):=Pt fun i j _ _ _ _ _ hc q =>
 rshift_int hc (by rw[EH i (Hz _)];exact q)
theorem Mi:i7 X (binaryOp .BitAnd) (AW fun i j=>.int (Builtin.bitAnd i j)):=Pu fun _ _ _ _ _ _ _ q=>and_int q
theorem unI {f:Value→Sem Value} {g:Int→Int}
  (rule:∀(i:Int) (t:Tok) (s:Shared) (Q:Value→Shared→Prop) (E:Value→Shared→Prop),Q (.int (g i) s.toks) { s with toks:=s.toks+1 }→wpAny (model X.prog X.w) X.A (f (.int i t)) Q E s) :
  Wb X f (rU fun i=>.int (g i)):=by
 intro pins s σ H x v Q I rx h;obtain⟨i,rfl,q⟩:=h;obtain⟨t,rfl⟩:=rx;exact rule i t s _ _ ⟨.int (g i),H,I.tok _,⟨_,rfl⟩,q⟩
theorem gn:Wb X (unaryOp .USub) (rU fun i=>.int (-i)):=unI fun _ _ _ _ _ q=>neg_int q
end
def Vl:V→V→Bool
 | .fU,.fU=>true | .fU,.int _=>true | .int _,.fU=>true | .fU,.bl _=>true | .bl _,.fU=>true | .fU,.str _=>true | .str _,.fU=>true
 | .int _,.int _=>true | .bl _,.bl _=>true | .str _,.str _=>true | .tN _,.tN _=>true
 | .int _,.str _=>true | .str _,.int _=>true | .bl _,.str _=>true | .str _,.bl _=>true
 | _,_=>false
def rEq:R2:=fun x y H Q=>Vl x y=true∧Q (.bl (decide (x=y))) H
def rNe:R2:=fun x y H Q=>Vl x y=true∧Q (.bl (!decide (x=y))) H
theorem HA {i j:Int}:decide (V.int i=V.int j)=(i==j):=by
 rw[kh];simp
theorem Mj {i j:Bool}:decide (V.bl i=V.bl j)=(i==j):=by
 rw[kh];simp
theorem HB {i j:Str}:decide (V.str i=V.str j)=(i==j):=by
 rw[kh];simp
theorem HC {i j:Array UInt8}:decide (V.tN i=V.tN j)=(i.toList==j.toList):=by
 rw[kh];cases i;cases j;simp
section
variable {X:Cx} {a b c:Expr} {ta tb tc:TE} {pos:Pos}
theorem dR {pins:List (Addr×Obj)} {σ:St} {H:Hp} {s:Shared} {Q:VK} {k k':Bool} (I:Inv X pins σ H s) (q:Q (.bl k) H) (e:k=k'):EP X pins σ Q (.bool k') s:=by
 subst e;exact⟨.bl k,H,I,rfl,q⟩
theorem Pw:i7 X (compareOp .Eq) rEq:=by
 intro pins s σ H x y v u Q I rx ry h;obtain⟨hs,q⟩:=h;cases x with
 | fU =>
  cases rx;cases y with
  | fU=>cases ry;exact PySem.EqNone.eq_none_none (dR I q (by simp))
  | bl j=>cases ry;exact PySem.EqNone.eq_none_bool (dR I q (by simp))
  | int j=>obtain⟨t',rfl⟩:=ry;exact PySem.EqNone.eq_none_int (dR I q (by simp))
  | str j=>obtain⟨t',rfl⟩:=ry;exact PySem.EqNone.eq_none_str (dR I q (by simp))
  | _=>exact absurd (show false=true from hs) dA
 | bl i =>
  cases rx;cases y with
  | fU=>cases ry;exact PySem.EqNone.eq_bool_none (dR I q (by simp))
  | bl j=>cases ry;exact eq_bool (dR I q Mj)
  | str j=>obtain⟨t',rfl⟩:=ry;exact PySem.EqMixed.eq_bool_str (dR I q (by simp))
  | _=>exact absurd (show false=true from hs) dA
 | int i =>
  obtain⟨t,rfl⟩:=rx;cases y with
  | fU=>cases ry;exact PySem.EqNone.eq_int_none (dR I q (by simp))
  | int j=>obtain⟨t',rfl⟩:=ry;exact eq_int (dR I q HA)
  | str j=>obtain⟨t',rfl⟩:=ry;exact PySem.EqMixed.eq_int_str (dR I q (by simp))
  | _=>exact absurd (show false=true from hs) dA
 | str i =>
  obtain⟨t,rfl⟩:=rx;cases y with
  | fU=>cases ry;exact PySem.EqNone.eq_str_none (dR I q (by simp))
  | bl j=>cases ry;exact PySem.EqMixed.eq_str_bool (dR I q (by simp))
  | int j=>obtain⟨t',rfl⟩:=ry;exact PySem.EqMixed.eq_str_int (dR I q (by simp))
  | str j=>obtain⟨t',rfl⟩:=ry;exact eq_str (dR I q HB)
  | _=>exact absurd (show false=true from hs) dA
 | tN i =>
  obtain⟨t,rfl⟩:=rx;cases y with
  | tN j=>obtain⟨t',rfl⟩:=ry;exact PySem.W.eq_bytes (dR I q HC)
  | _=>exact absurd (show false=true from hs) dA
 | _=>cases y<;>exact absurd (show false=true from hs) dA
theorem Px:i7 X (compareOp .NotEq) rNe:=by
 intro pins s σ H x y v u Q I rx ry h;obtain⟨hs,q⟩:=h;cases x with
 | fU =>
  cases rx;cases y with
  | fU=>cases ry;exact PySem.EqNone.ne_none_none (dR I q (by simp))
  | bl j=>cases ry;exact PySem.EqNone.ne_none_bool (dR I q (by simp))
  | int j=>obtain⟨t',rfl⟩:=ry;exact PySem.EqNone.ne_none_int (dR I q (by simp))
  | str j=>obtain⟨t',rfl⟩:=ry;exact PySem.EqNone.ne_none_str (dR I q (by simp))
  | _=>exact absurd (show false=true from hs) dA
 | bl i =>
  cases rx;cases y with
  | fU=>cases ry;exact PySem.EqNone.ne_bool_none (dR I q (by simp))
  | bl j=>cases ry;exact ne_bool (dR I q (a7 not Mj))
  | str j=>obtain⟨t',rfl⟩:=ry;exact PySem.EqMixed.ne_bool_str (dR I q (by simp))
  | _=>exact absurd (show false=true from hs) dA
 | int i =>
  obtain⟨t,rfl⟩:=rx;cases y with
  | fU=>cases ry;exact PySem.EqNone.ne_int_none (dR I q (by simp))
  | int j=>obtain⟨t',rfl⟩:=ry;exact ne_int (dR I q (a7 not HA))
  | str j=>obtain⟨t',rfl⟩:=ry;exact PySem.EqMixed.ne_int_str (dR I q (by simp))
  | _=>exact absurd (show false=true from hs) dA
 | str i =>
  obtain⟨t,rfl⟩:=rx;cases y with
  | fU=>cases ry;exact PySem.EqNone.ne_str_none (dR I q (by simp))
  | bl j=>cases ry;exact PySem.EqMixed.ne_str_bool (dR I q (by simp))
  | int j=>obtain⟨t',rfl⟩:=ry;exact PySem.EqMixed.ne_str_int (dR I q (by simp))
  | str j=>obtain⟨t',rfl⟩:=ry;exact ne_str (dR I q (a7 not HB))
  | _=>exact absurd (show false=true from hs) dA
 | tN i =>
  obtain⟨t,rfl⟩:=rx;cases y with
  | tN j=>obtain⟨t',rfl⟩:=ry;exact PySem.W.ne_bytes (dR I q (a7 not HC))
  | _=>exact absurd (show false=true from hs) dA
 | _=>cases y<;>exact absurd (show false=true from hs) dA
theorem jv:i7 X (compareOp .Lt) (AW fun i j=>.bl (decide (i<j))):=Mg fun _ _ _ _ _ _ _ q=>lt_int q
theorem AX:i7 X (compareOp .LtE) (AW fun i j=>.bl (decide (i≤j))):=Mg fun _ _ _ _ _ _ _ q=>le_int q
theorem eX:i7 X (compareOp .Gt) (AW fun i j=>.bl (decide (j<i))):=Mg fun _ _ _ _ _ _ _ q=>gt_int q
theorem mv:i7 X (compareOp .GtE) (AW fun i j=>.bl (decide (j≤i))):=Mg fun _ _ _ _ _ _ _ q=>ge_int q
theorem SJ:i7 X (compareOp .Is) (fun x y H Q=>y=.fU∧Q (.bl (decide (x=.fU))) H):=by
 intro pins s σ H x y v u Q I rx ry h;obtain⟨rfl,q⟩:=h;cases ry;refine is_none_gen (dR I q ?_);cases x<;>first
  | (cases rx;rfl)
  | (obtain⟨t,rfl⟩:=rx;rfl)
theorem Ml (b:Expr) {op:CmpOp} (h:op≠.In:=by decide) (h2:op≠.NotIn:=by decide):behindInMarks op b=false:=by
 have e1:(op==CmpOp.In)=false:=by cases op<;>first | rfl | exact absurd rfl h
 have e2:(op==CmpOp.NotIn)=false:=by cases op<;>first | rfl | exact absurd rfl h2
 cases b<;>simp[behindInMarks,e1,e2]
theorem Py {op:CmpOp} {r:R2} (ho:i7 X (compareOp op) r) (ha:PE X a ta) (hb:PE X b tb) (hm:behindInMarks op b=false):PE X (.Compare a [op] [b] pos) (Kl r ta tb):=by
 intro pins s σ H Q I h;exact wpAny_Compare1 (Pr ha hb I h fun v u s2 x y H2 I2 rx ry q=>ho pins s2 σ H2 x y v u Q I2 rx ry q) hm
def Km (t:TE):TT:=fun σ H Q=>t σ H fun x H'=>∃k,x=.bl k∧Q k H'
theorem Pz {op:CmpOp} {r:R2} (ho:i7 X (compareOp op) r) (ha:PE X a ta) (hb:PE X b tb) (hm:behindInMarks op b=false):PT X (.Compare a [op] [b] pos) (Km (Kl r ta tb)):=by
 intro pins s σ H Q I h;refine wpAny_isTrue_Compare1 (dz (ha pins s σ H _ I h) fun v s1 ⟨x,H1,I1,r1,q1⟩=>dz (hb pins s1 σ H1 _ I1 q1) fun u s2 ⟨y,H2,I2,r2,q2⟩ =>
  dz (ho pins s2 σ H2 x y v u _ I2 r1 r2 q2) fun c s3 ⟨z,H3,I3,r3,k,e,q3⟩=>?_) hm
 subst e;cases r3;exact wpAny_truthy_bool ⟨H3,I3,q3⟩
def SK (r r':R2) (ta tb tc:TE):TE:=fun σ H Q=>ta σ H fun x H1=>tb σ H1 fun y H2=>r x y H2 fun z H3=>∃k,z=.bl k ∧
 (if k=true then tc σ H3 fun w' H4=>r' y w' H4 Q else Q (.bl false) H3)
theorem Ni {op Wc:CmpOp} {r r':R2} (ho:i7 X (compareOp op) r) (xH:i7 X (compareOp Wc) r') (ha:PE X a ta) (hb:PE X b tb) (hc:PE X c tc)
  (hm:lastMarks [op,Wc] [b,c]=false:=by with_unfolding_all rfl):PT X (.Compare a [op,Wc] [b,c] pos) (Km (SK r r' ta tb tc)):=by
 intro pins s σ H Q I h;refine isTrue_chain (dz (ha pins s σ H _ I h) fun v s1 ⟨x,H1,I1,r1,q1⟩=>test_link (dz (hb pins s1 σ H1 _ I1 q1) fun u s2 ⟨y,H2,I2,r2,q2⟩ =>
  dz (ho pins s2 σ H2 x y v u _ I2 r1 r2 q2) fun d s3 ⟨z,H3,I3,r3,k,e,q3⟩=>?_)) hm
 subst e;cases r3;refine wpAny_truthy_bool ?_;cases k with
 | false =>
  obtain⟨k',e',q'⟩:=q3;cases e';exact ite_ff ⟨H3,I3,q'⟩
 | true =>
  refine ite_tt (test_last (dz (hc pins s3 σ H3 _ I3 q3) fun w' s4 ⟨z',H4,I4,r4,q4⟩=>dz (xH pins s4 σ H4 y z' u w' _ I4 r2 r4 q4) fun d' s5 ⟨z2,H5,I5,r5,k2,e2,q5⟩=>?_));subst e2;cases r5;exact wpAny_truthy_bool ⟨H5,I5,q5⟩
theorem sI:(sizeLine:Nat)<2^63:=by rw[sizeLine_eq];decide
theorem vals1 {x:V} {us:List Value} (r:Vals [x] us):∃u,us=[u]∧RelV x u:=by
 cases r with
 | cons r1 r2=>cases r2;exact⟨_,rfl,r1⟩
theorem vals2 {x y:V} {us:List Value} (r:Vals [x,y] us):∃u w',us=[u,w']∧RelV x u∧RelV y w':=by
 cases r with
 | cons r1 r2 =>
  cases r2 with
  | cons r3 r4=>cases r4;exact⟨_,_,rfl,r1,r3⟩
theorem oQ:pQ X (.builtin "abs") (fun xs H Q=>∃i,xs=[.int i]∧Q (.int (if i<0 then -i else i)) H):=by
 intro pins s σ H xs us Q I r h;obtain⟨i,rfl,q⟩:=h;obtain⟨u,rfl,t,rfl⟩:=vals1 r;exact call_abs_int fun u tk=>⟨.int (if i<0 then -i else i),H,I.tok _,⟨_,rfl⟩,q⟩
theorem pR (hc:X.calm=true):pQ X (.builtin "max") (fun xs H Q=>∃i j,xs=[.int i,.int j]∧Q (.int (if j>i then j else i)) H):=by
 intro pins s σ H xs us Q I r h;obtain⟨i,j,rfl,q⟩:=h;obtain⟨u,w',rfl,⟨t,rfl⟩,⟨t',rfl⟩⟩:=vals2 r;refine max_two_ints (I.ok.hd hc) fun h' tk k=>⟨_,H,I.kept k,?_,q⟩;by_cases hj:j>i
 ·rw[ao hj,ao hj];exact⟨_,rfl⟩
 ·rw[ag hj,ag hj];exact⟨_,rfl⟩
theorem uD (hc:X.calm=true):pQ X (.builtin "min") (fun xs H Q=>∃i j,xs=[.int i,.int j]∧Q (.int (if j<i then j else i)) H):=by
 intro pins s σ H xs us Q I r h;obtain⟨i,j,rfl,q⟩:=h;obtain⟨u,w',rfl,⟨t,rfl⟩,⟨t',rfl⟩⟩:=vals2 r;refine min_two_ints (I.ok.hd hc) fun h' tk k=>⟨_,H,I.kept k,?_,q⟩;by_cases hj:j<i
 ·rw[ao hj,ao hj];exact⟨_,rfl⟩
 ·rw[ag hj,ag hj];exact⟨_,rfl⟩
theorem Nj:pQ X (.builtin "ord") (fun xs H Q=>∃x,xs=[.str x]∧x.length=1∧Q (.int (x.cps.getD 0 0:Nat)) H):=by
 intro pins s σ H xs us Q I r h;obtain⟨x,rfl,hz,q⟩:=h;obtain⟨u,rfl,t,rfl⟩:=vals1 r;exact ord_of_one hz ⟨.int _,H,I.tok _,⟨_,rfl⟩,q⟩
end
end L2
namespace L2
open PySem PySem.Spec PyProof.Rows
structure AY (h:Heap) (x dx C:Addr) (mA:Str→Option Value):Prop where
 obj:h.get? x=some (PySem.W.instObj C dx)
 ns:h.Ns1 dx mA
 ne:dx≠x
theorem Kn {h:Heap} {dx:Addr} {mA:Str→Option Value} (n:h.Ns1 dx mA):∃od,h.get? dx=some od∧∀name,PySem.W.lookIn name od=some (mA name):=by
 obtain⟨o,es,ep,ho,hd,hk,_,hm⟩:=n;refine⟨o,ho,fun name=>?_⟩;have e:=hm name;unfold nsFind findBy at e;rw[←Array.find?_toList] at e;unfold PySem.W.lookIn;rw[hd];dsimp only;split
 ·rename_i y q;rw[q] at e;exact a7 some e
 ·rename_i q;rw[q] at e;have a:es.toList.any (·.refKey)=false:=by
   rw[List.any_eq_false];intro y hy;obtain⟨z,t,YE⟩:=hk y (Array.mem_toList_iff.mp hy);simp[DictEntry.refKey,YE]
  have a':¬es.toList.any (·.refKey)=true:=by rw[a];exact dA
  rw[ag a'];exact a7 some e
theorem AY.look {h:Heap} {x dx C:Addr} {mA:Str→Option Value} (I:AY h x dx C mA):∃od,PySem.W.InstAt h x (PySem.W.instObj C dx) C (some od)∧∀name,PySem.W.lookIn name od=some (mA name) :=
 let ⟨od,ho,hl⟩:=Kn I.ns
 ⟨od,⟨I.obj,rfl,rfl,ho⟩,hl⟩
section
variable {prog:Program} {w:World} {A:Around} {E:Value→Shared→Prop} {s:Shared} {K:aP} {x dx C f:Addr} {mA:Str→Option Value} {name:Str} {v:Value}
theorem get_map {expr:Bool} {Q:Value→Shared→Prop} (X:K.In s.heap) (I:AY s.heap x dx C mA) (hg:PySem.W.plainGet K C name=true) (hh:PySem.W.hasDictIn K C=true)
  (ha:PySem.W.findIn K (.ref C) name=some none) (hv:mA name=some v) (SN:PySem.W.handedIn v=true) (h:Q v { s with toks:=s.toks+1 }) :
  wpAny (model prog w) A (getAttr (.ref x) name expr) Q E s:=by
 obtain⟨od,J,hl⟩:=I.look;exact PySem.W.get_value X J (PySem.W.plainGet_of hg).1 (PySem.W.findObj_own hh ha rfl (by rw[hl,hv])) SN h
theorem Nk {pl:Sem Bool} {Q:Value×List Value→Shared→Prop} (X:K.In s.heap) (I:AY s.heap x dx C mA) (hg:PySem.W.plainGet K C name=true)
  (hf:PySem.W.findIn K (.ref C) name=some (some (.ref f))) (ht:PySem.W.isFn K (.ref f)=true) (hv:mA name=none) (h:Q (.ref f,[.ref x]) s) :
  wpAny (model prog w) A (getMethod (.ref x) name pl) Q E s:=by
 obtain⟨od,J,hl⟩:=I.look;exact PySem.W.method_fn X J (PySem.W.plainGet_of hg).1 (PySem.W.plainGet_of hg).2 hf (dE.mp ht) (by show (PySem.W.lookIn name od).map (·.isSome)=some false;rw[hl,hv];rfl) h
theorem PC {ns:List Str} {Q:Unit→Shared→Prop} (X:K.In s.heap) (I:AY s.heap x dx C mA)
  (hs:PySem.W.findIn K (.ref C) "__setattr__"=some (some (.builtin "object.__setattr__"))) (hp:PySem.W.plainOver K C=true) (ht:PySem.W.takerIn K C name=some none) (hh:PySem.W.hasDictIn K C=true)
  (hw:PySem.Within mA ns) (hsz:ns.length≤sizeLine)
  (h:∀h',AY h' x dx C (fun y=>if y=name then some v else mA y)→Heap.SameBut dx s.heap h'→Q () { s with heap:=h',toks:=s.toks+2 }) :
  wpAny (model prog w) A (setAttr (.ref x) name v) Q E s:=by
 obtain⟨od,J,hl⟩:=I.look;refine PySem.W.set_plain X J hs (PySem.W.osa_open (s:={ s with toks:=s.toks+1 }) (r:=none) X J hp ht fun b=>?_);obtain⟨cd,hc,qY⟩:=PySem.W.any_some hh;have hx:s.heap.get? x=some ⟨.ref C,some dx,.plain,#[]⟩:=I.obj;refine wpAny_bind (wpAny_pure (wpAny_bind (wpAny_bind (wpAny_loadPart hx (wpAny_bind (PySem.W.Looks.here (s:={ s with toks:=s.toks+1 }) (PySem.W.looks_clsIn X hc) ?_))))));rw[qY];refine wpAny_pure (a:=some dx) (wpAny_bind (wpAny_pure (wpAny_bind ?_)));refine wpAny_nsSet1 (s:={ s with toks:=s.toks+1 }) I.ns fun h' PD Nl=>?_;obtain⟨oD,esD,epD,hoD,hdD,hcD⟩:=PD.count (PySem.Within.cons name v hw);refine wpAny_bind (wpAny_lookBehind hoD (by rw[hdD];exact pastItsLine_dict (bZ hcD (by rw[cN];omega))) ?_);exact wpAny_pure (h _ ⟨(Nl.2 _ (j7 I.ne)).trans I.obj,PD,I.ne⟩ Nl)
theorem Nm {R:Result→Shared→Prop} {vs:List Value} {kw:List (Str×Value)} (X:K.In s.heap) (hm:PySem.W.makesIn K C=true)
  (hi:PySem.W.findIn K (.ref C) "__init__"=some (some (.ref f))) (hf:PySem.W.typeIn K (.ref f)=some (.type "function"))
  (h:codeAny (model prog w) (A.under (.builtin "type.__call__" ⟨.ref C::vs,kw⟩)) (.call (.ref f) ⟨.ref (s.heap.objs.size+1)::vs,kw⟩) (PySem.W.InitBack (s.heap.objs.size+1) R)
   { s with heap:=(s.heap.push PySem.W.emptyDict).push (PySem.W.instObj C s.heap.objs.size) }) :
  codeAny (model prog w) A (.call (.ref C) ⟨vs,kw⟩) R s:=by
 obtain⟨hh,g,d,t,os⟩:=s;exact PySem.W.make_core (PySem.W.makes_of X hm) (PySem.W.looks_findIn X hi) (fun self=>PySem.W.bind_fn X self hf) (.inl rfl) h
end
def kF (f:Str) (v:V):List (Str×V)→List (Str×V)
 | []=>[(f,v)]
 | (g,x)::r=>if g=f then (g,v)::r else (g,x)::kF f v r
theorem vG (f g:Str) (v:V):∀fs:List (Str×V),(kF f v fs).lookup g=if g=f then some v else fs.lookup g
 | []=>by
  show List.lookup g [(f,v)]=_;by_cases h:g=f
  ·have hb:(g==f)=true:=dE.mpr h;simp only[List.lookup,hb,ao h]
  ·have hb:(g==f)=false:=tQ.mpr h;simp only[List.lookup,hb,ag h]
 | (k,x)::r=>by
  have ih:=vG f g v r;rw[show kF f v ((k,x)::r)=(if k=f then (k,v)::r else (k,x)::kF f v r) from rfl];by_cases hk:k=f
  ·rw[ao hk];by_cases h:g=k
   ·have hb:(g==k)=true:=dE.mpr h;simp only[List.lookup,hb,ao (h.trans hk)]
   ·have hb:(g==k)=false:=tQ.mpr h;simp only[List.lookup,hb,ag (fun e:g=f=>h (e.trans hk.symm))]
  ·rw[ag hk];by_cases h:g=k
   ·have hb:(g==k)=true:=dE.mpr h;simp only[List.lookup,hb,ag (fun e:g=f=>hk (h.symm.trans e))]
   ·have hb:(g==k)=false:=tQ.mpr h;simp only[List.lookup,hb];exact ih
theorem uE (f:Str) (v:V):∀fs:List (Str×V),f∈(kF f v fs).map (·.1)∧∀g,g∈fs.map (·.1)→g∈(kF f v fs).map (·.1)
 | []=>⟨by simp[kF],fun g h=>by simp at h⟩
 | (k,x)::r=>by
  obtain⟨i1,i2⟩:=uE f v r;rw[show kF f v ((k,x)::r)=(if k=f then (k,v)::r else (k,x)::kF f v r) from rfl];by_cases hk:k=f
  ·rw[ao hk];subst hk;exact⟨by simp,fun g h=>by simpa using h⟩
  ·rw[ag hk];refine⟨?_,fun g h=>?_⟩
   ·rw[fT];exact dv _ i1
   ·rw[fT] at h ⊢;rcases cO.mp h with e | e
    ·exact cO.mpr (.inl e)
    ·exact dv _ (i2 g e)
theorem vI (f:Str) (v:V):∀fs:List (Str×V),(kF f v fs).length≤fs.length+1
 | []=>by simp[kF]
 | (k,x)::r=>by
  have ih:=vI f v r;rw[show kF f v ((k,x)::r)=(if k=f then (k,v)::r else (k,x)::kF f v r) from rfl];by_cases hk:k=f
  ·rw[ao hk,cN,cN];omega
  ·rw[ag hk,cN,cN];omega
theorem uc.PF {v:V} {o:Option Value} (r:uc (some v) o):∃u,o=some u∧RelV v u:=by
 cases o with
 | none=>exact(show False from r).elim
 | some u=>exact⟨u,rfl,r⟩
theorem uc.none_of {o:Option Value} (r:uc none o):o=none:=by
 cases o with
 | none=>rfl
 | some u=>exact(show False from r).elim
theorem Ko {v:V} {u:Value} (r:RelV v u):PySem.W.handedIn u=true:=by
 cases v with
 | fU=>cases (show u=Value.none from r);rfl
 | bl b=>cases (show u=Value.bool b from r);rfl
 | int i=>obtain⟨t,e⟩:=(show ∃t,u=Value.int i t from r);cases e;rfl
 | str x=>obtain⟨t,e⟩:=(show ∃t,u=Value.str x t from r);cases e;rfl
 | tN b=>obtain⟨t,e⟩:=(show ∃t,u=Value.bytes b t from r);cases e;rfl
 | Su b=>obtain⟨t,e⟩:=(show ∃t,u=Value.float b t from r);cases e;rfl
 | ref a=>cases (show u=Value.ref a from r);rfl
 | ty n=>cases (show u=Value.type n from r);rfl
section
variable {P:Program} {w:World} {H H':Hp} {h h':Heap} {a C dx:Addr} {fs fs':List (Str×V)}
theorem AZ (dr:jt P w H h) (e:H a=some (.ins C dx fs)):∃mA,AY h a dx C mA∧(∀f,uc (fs.lookup f) (mA f))∧PySem.Within mA (fs.map (·.1))∧fs.length≤1000∧H dx=some (.own a):=by
 obtain⟨d,z,ne,ob,mA,n,r,q⟩:=(show gZ P w H h a (.ins C dx fs) from dr a _ e);exact⟨mA,⟨ob,n,ne⟩,r,q,z,d⟩
end
structure zu (K:aP) (C:Addr):Prop where
 pg:PySem.W.plainGet K C Str.empty=true
 hd:PySem.W.hasDictIn K C=true
 po:PySem.W.plainOver K C=true
 sa:PySem.W.findIn K (.ref C) "__setattr__"=some (some (.builtin "object.__setattr__"))
theorem zu.get {K:aP} {C:Addr} (c:zu K C) (f:Str):PySem.W.plainGet K C f=true:=c.pg
def f9 (K:aP) (C:Addr) (f:Str):Prop:=PySem.W.findIn K (.ref C) f=some none
theorem f9.We {K:aP} {C:Addr} {f:Str} (n:f9 K C f):PySem.W.takerIn K C f=some none:=by
 unfold PySem.W.takerIn;rw[show PySem.W.findIn K (.ref C) f=some none from n];rfl
structure EL (K:aP) (C:Addr) (m:Str) (f:Addr):Prop where
 at_:PySem.W.findIn K (.ref C) m=some (some (.ref f))
 fn:PySem.W.isFn K (.ref f)=true
 kp:PySem.W.keepIn K (.ref f)=true
section
variable {X:Cx} {pins:List (Addr×Obj)} {σ:St} {H:Hp} {s:Shared} {a C dx:Addr} {fs:List (Str×V)} {f:Str} {v:V} {A:Around} {E:Value→Shared→Prop}
theorem yH {b:Bool} {Q:Value→Shared→Prop} (I:Inv X pins σ H s) (e:H a=some (.ins C dx fs)) (c:zu X.K C) (n:f9 X.K C f) (l:fs.lookup f=some v)
  (h:∀u s',Inv X pins σ H s'→RelV v u→Q u s'):wpAny (model X.prog X.w) A (getAttr (.ref a) f b) Q E s:=by
 obtain⟨mA,O,r,_,_,_⟩:=AZ I.dr e;obtain⟨u,hu,ru⟩:=uc.PF (v:=v) (o:=mA f) (by rw[←l];exact r f);exact get_map I.qM O (c.get f) c.hd n hu (Ko ru) (h u _ (I.tok _) ru)
theorem nL {m:Str} {g:Addr} {pl:Sem Bool} {Q:Value×List Value→Shared→Prop} (I:Inv X pins σ H s) (e:H a=some (.ins C dx fs)) (c:zu X.K C) (k:EL X.K C m g) (l:fs.lookup m=none)
  (h:Q (.ref g,[.ref a]) s):wpAny (model X.prog X.w) A (getMethod (.ref a) m pl) Q E s:=by
 obtain⟨mA,O,r,_,_,_⟩:=AZ I.dr e;have hn:mA m=none:=uc.none_of (by rw[←l];exact r m);exact Nk I.qM O (c.get m) k.at_ k.fn hn h
theorem HE {y:V} {u:Value} {Q:Unit→Shared→Prop} (I:Inv X pins σ H s) (e:H a=some (.ins C dx fs)) (c:zu X.K C) (n:f9 X.K C f) (hl:fs.length<1000) (ry:RelV y u)
  (h:∀s',Inv X pins σ (upd H a (.ins C dx (kF f y fs))) s'→Q () s'):wpAny (model X.prog X.w) A (setAttr (.ref a) f u) Q E s:=by
 obtain⟨mA,O,r,wi,_,ho⟩:=AZ I.dr e;have hz:(fs.map (·.1)).length≤sizeLine:=by rw[aF,sizeLine_eq];omega
 refine PC I.qM O c.sa c.po n.We c.hd wi hz fun h' O' sb=>h _ ?_;have hd:∃o,h'.get? dx=some o:=let ⟨o,_,_,e',_⟩:=O'.ns;⟨o,e'⟩;refine I.write (x:=a) (e:=dx) (by rw[e];exact True.intro) (.inr ho) (fun b q hb z=>(sb.2 b hb).trans z) hd ?_;refine⟨by rw[b7 O.ne];exact ho,?_,O.ne,O'.obj,_,O'.ns,fun g=>?_,fun g hg=>?_⟩
 ·have:=vI f y fs;omega
 ·show uc ((kF f y fs).lookup g) (if g=f then some u else mA g);rw[vG];by_cases q:g=f
  ·rw[ao q,ao q];exact ry
  ·rw[ag q,ag q];exact r g
 ·by_cases q:g=f
  ·rw[q];exact(uE f y fs).1
  ·refine(uE f y fs).2 g (wi g fun z=>hg ?_);show (if g=f then some u else mA g)=none;rw[ag q];exact z
theorem Inv.made (I:Inv X pins σ H s):Inv X pins σ (upd (upd H s.heap.objs.size (.own (s.heap.objs.size+1))) (s.heap.objs.size+1) (.ins C s.heap.objs.size []))
  { s with heap:=(s.heap.push PySem.W.emptyDict).push (PySem.W.instObj C s.heap.objs.size) }:=by
 have e1:(s.heap.push PySem.W.emptyDict).get? s.heap.objs.size=some PySem.W.emptyDict:=Heap.get?_push_size s.heap rfl;have e2:((s.heap.push PySem.W.emptyDict).push (PySem.W.instObj C s.heap.objs.size)).get? (s.heap.objs.size+1)=some (PySem.W.instObj C s.heap.objs.size):=by
  have:=Heap.get?_push_size (s.heap.push PySem.W.emptyDict) (o:=PySem.W.instObj C s.heap.objs.size) rfl;rwa [Heap.size_push] at this
 have e3:(s.heap.push PySem.W.emptyDict).Ns s.heap.objs.size (fun _=>none):=⟨PySem.W.emptyDict,#[],_,e1,rfl,(fun e he=>absurd he (by simp)),fun _=>rfl⟩;have I1:=I.laid (a:=s.heap.objs.size) (o:=.own (s.heap.objs.size+1)) (h':=s.heap.push PySem.W.emptyDict) (t':=s.toks) (fun b u q=>Heap.get?_push_of_some _ q) (bB _) ⟨_,e1⟩;refine I1.laid (a:=s.heap.objs.size+1) (o:=.ins C s.heap.objs.size []) (t':=s.toks) (fun b u q=>Heap.get?_push_of_some _ q) (zm (Heap.size_push _ _)) ?_;have ne:s.heap.objs.size≠s.heap.objs.size+1:=dI (EK _);refine⟨by rw[b7 ne,aL],iA _,ne,e2,fun _=>none,(Heap.Ns1.of_empty e3).at fun o q=>Heap.get?_push_of_some _ q,fun _=>True.intro,fun y hy=>absurd rfl hy⟩
theorem HF {prog:Program} {w:World} {env:Env} {e:Expr} {f:Str} {pos:Pos} {s:Shared} {Q:Value→Shared→Prop} (hb:attributeBase e f env (eval e env)=eval e env)
  (h:wpAny (model prog w) A (eval e env) (fun o s₁=>wpAny (model prog w) A (getAttr o f true) Q E s₁) E s):wpAny (model prog w) A (eval (.Attribute e f pos) env) Q E s :=
 Attribute_any_ h (by rw[arm_eval_Attribute,hb])
end
def YG (K:aP) (ta:TE) (f:Str):TE:=fun σ H Q=>ta σ H fun x H1=>∃a C dx fs v,x=.ref a∧H1 a=some (.ins C dx fs)∧zu K C∧f9 K C f∧fs.lookup f=some v∧Q v H1
def YH (K:aP) (ta tv:TE) (f:Str):TS:=fun D σ H=>tv σ H fun y H1=>ta σ H1 fun x H2=>∃a C dx fs,x=.ref a∧H2 a=some (.ins C dx fs)∧zu K C∧f9 K C f∧fs.length<1000 ∧
 D.nx σ (upd H2 a (.ins C dx (kF f y fs)))
section
variable {X:Cx} {o e value:Expr} {f:Str} {pos pos' yI:Pos} {ta tv:TE}
theorem FQ (he:PE X e ta) (hb:attributeBase e f X.env (eval e X.env)=eval e X.env):PE X (.Attribute e f pos) (YG X.K ta f):=by
 intro pins s σ H Q I h;refine HF hb (dz (he pins s σ H _ I h) fun u s1 ⟨x,H1,I1,rx,a,C,dx,fs,v,ex,ea,c,n,l,q⟩=>?_);subst ex;obtain rfl:u=Value.ref a:=rx;exact yH I1 ea c n l fun u' s2 I2 ru=>⟨v,H1,I2,ru,q⟩
theorem nM (ha:PE X o ta) (hv:PE X value tv) (hs:swapsWith value (some (.Attribute o f pos')) pos.line X.env=pure false):PS X (.Assign [.Attribute o f pos'] value pos) (YH X.K ta tv f):=by
 intro pins s σ H D I h;refine plainObj_wpAny_Assign_Attribute (dz (hv pins s σ H _ I h) fun u s1 ⟨y,H1,I1,ry,q⟩=>dz (ha pins s1 σ H1 _ I1 q) fun ov s2 ⟨x,H2,I2,rx,a,C,dx,fs,ex,ea,c,n,l,q2⟩=>?_) hs;subst ex;obtain rfl:ov=Value.ref a:=rx;exact HE I2 ea c n l ry fun s3 I3=>⟨σ,_,I3,q2⟩
end
end L2
namespace L2
open PySem PySem.Spec PyProof.Rows
structure fj (k:Nat) (A:Around):Prop where
 hd:A.handled=none
 dp:A.depth+3*k+5<recursionLimit
 un:A.units+16*k+200<cLine
theorem fj.mono {j k:Nat} {A:Around} (r:fj k A) (h:j≤k):fj j A:=⟨r.hd,by have:=r.dp;omega,by have:=r.un;omega⟩
theorem fj.deeper {k:Nat} {A:Around} (r:fj (k+1) A) (env:Env):fj k (A.deeper env) :=
 ⟨r.hd,by have:=r.dp;show A.depth+1+3*k+5<_;omega,by have:=r.un;show A.units+3+16*k+200<_;omega⟩
theorem HG {A:Around} {C:Addr} {us:List Value} {kw:List (Str×Value)}:(A.under (.builtin "type.__call__" ⟨.ref C::us,kw⟩)).depth=A.depth+1:=by
 first | rfl | simp[Around.under,Code.weight,Code.isCreation,Code.isGuard,Code.isCaller,Code.frames,Code.isFrame,guardIds]
theorem HH {A:Around} {C:Addr} {us:List Value} {kw:List (Str×Value)}:(A.under (.builtin "type.__call__" ⟨.ref C::us,kw⟩)).units=A.units+1:=by
 first | rfl | simp[Around.under,Code.cUnits,Code.frames,Code.isFrame]
theorem fj.make {k:Nat} {A:Around} (r:fj (k+1) A) (C:Addr) (us:List Value) (kw:List (Str×Value)):fj k (A.under (.builtin "type.__call__" ⟨.ref C::us,kw⟩)) :=
 ⟨r.hd,by have:=r.dp;rw[HG];omega,by have:=r.un;rw[HH];omega⟩
theorem fj.depth {k:Nat} {A:Around} (r:fj k A):A.depth<recursionLimit:=by have:=r.dp;omega
theorem fj.units {k:Nat} {A:Around} (r:fj k A):A.units+64<cLine:=by have:=r.un;omega
def EM:TA:=fun _ H Q=>Q [] H
def Wf (ta:TE) (tr:TA):TA:=fun σ H Q=>ta σ H fun x H1=>tr σ H1 fun xs H2=>Q (x::xs) H2
section
variable {X:Cx} {e:Expr} {es:List Expr} {te:TE} {t:TA} {pos:Pos}
theorem ae:PA X [] EM:=fun _ _ _ _ H Q I h=>Calls.spliced_nil ⟨[],H,I,.nil,h⟩
theorem aa (ha:PE X e te) (hr:PA X es t) (hs:starEach (e::es) X.env=(false,eval e X.env)::starEach es X.env:=by rfl):PA X (e::es) (Wf te t):=by
 intro pos pins s σ H Q I h;rw[hs];show wpAny _ _ (spliced ((false,eval e X.env)::backTo pos (starEach es X.env))) _ _ s;refine Calls.spliced_cons (dz (ha pins s σ H _ I h) fun u s1 ⟨x,H1,I1,r1,q1⟩=>?_);exact dz (hr pos pins s1 σ H1 _ I1 q1) fun us s2 ⟨xs,H2,I2,r2,q2⟩=>⟨x::xs,H2,I2,.cons r1 r2,q2⟩
def YI (t:TA):TE:=fun σ H Q=>t σ H fun xs H1=>xs.length≤sizeLine∧∀p,H1 p=none→Q (.ref p) (upd H1 p (.lst xs))
theorem dw (h:PA X es t):PE X (.List es pos) (YI t):=by
 intro pins s σ H Q I hq;refine wpAny_List_spliced (dz (h pos pins s σ H _ I hq) fun us s1 ⟨xs,H1,I1,r,z,q⟩=>⟨by rw[←r.length];exact z,?_⟩);have hf:H1 s1.heap.objs.size=none:=I1.dr.fresh (bB _);refine⟨.ref s1.heap.objs.size,upd H1 s1.heap.objs.size (.lst xs),I1.laid (t':=s1.toks) (fun b u e=>Heap.get?_push_of_some _ e) (bB _) ?_,rfl,q _ hf⟩;exact⟨z,us,0,r,Heap.get?_push_size _ rfl⟩
end
abbrev Sp:=List V→Hp→VK→XK→Prop
abbrev vK:=List Env→Hp→Shared→XK→Value→Shared→Prop
structure A0 (P:Program) (w:World) (K:aP) (mg:Str→Option Value) (base:Heap) (A:Around) (outer:List Env) (s:Shared) (H:Hp):Prop where
 frames:A.frames=some outer
 mod:Mod K mg base
 bs:∀b o,base.get? b=some o→s.heap.get? b=some o∧H b=none
 zp:base.objs.size≤s.heap.objs.size
 mn:s.heap.FunFrames base outer
 DJ:∀b∈m8 outer,H b=none
 dr:jt P w H s.heap
 bare:AllBare s.gens
def CE (outer:List Env) (P:Program) (w:World) (H:Hp) (s:Shared) (Q:VK) (u:Value) (s':Shared):Prop :=
 ∃v H',s'.os=s.os∧AllBare s'.gens∧Un (m8 outer) [] H H' s.heap s'.heap∧jt P w H' s'.heap∧RelV v u∧Q v H'
def CR (CX:vK) (outer:List Env) (P:Program) (w:World) (H:Hp) (s:Shared) (Q:VK) (E:XK) (r:Result) (s':Shared):Prop :=
 match r with
 | .ok (.ret u)=>CE outer P w H s Q u s'
 | .ok _=>False
 | .error e=>CX outer H s E e s'
structure jy (P:Program) (w:World) (K:aP) (mg:Str→Option Value) (base:Heap) (CX:vK) (k:Nat) (f:Addr) (fd:FuncData) (ps:List Str) (sp:Sp):Prop where
 len:∀vs H Q E,sp vs H Q E→vs.length=ps.length
 run:∀(A:Around) (outer:List Env) (s:Shared) (H:Hp) (args:Args) (us:List Value) (vs:List V) (Q:VK) (E:XK),fj k A→A0 P w K mg base A outer s H→BindsTo s fd args (ps.zip us)→Vals vs us→sp vs H Q E →
  codeAny (model P w) A (.call (.ref f) args) (CR CX outer P w H s Q E) s
theorem A0.make {P:Program} {w:World} {K:aP} {mg:Str→Option Value} {base:Heap} {A:Around} {outer:List Env} {s:Shared} {H:Hp} (e:A0 P w K mg base A outer s H) (C:Addr) (us:List Value) (kw:List (Str×Value)) :
 A0 P w K mg base (A.under (.builtin "type.__call__" ⟨.ref C::us,kw⟩)) outer s H:=⟨by first | exact e.frames | (simpa [Around.under,Code.envs,Code.isFrame,pushEnvs] using e.frames),e.mod,e.bs,e.zp,e.mn,e.DJ,e.dr,e.bare⟩
section
variable {X:Cx} {pins:List (Addr×Obj)} {σ:St} {H:Hp} {s s':Shared}
theorem Inv.Vm (I:Inv X pins σ H s):A0 X.prog X.w X.K X.mg X.base X.A X.stack s H :=
 ⟨I.ok.frames,I.ok.mod,I.bs,bZ I.ok.zp I.sz,I.stack,I.AM,I.dr,I.bare⟩
theorem Inv.after {Q:VK} {u:Value} (I:Inv X pins σ H s) (h:CE X.stack X.prog X.w H s Q u s'):EP X pins σ Q u s':=by
 obtain⟨v,H',os,bare,un,dr,r,q⟩:=h;obtain⟨hh,g,d,t,os'⟩:=s';obtain rfl:os'=s.os:=os;exact⟨v,H',I.call (h':=hh) (g':=g) (d':=d) (t':=t) (ch:=[]) un dr bare (fun b z=>absurd z (by simp)),r,q⟩
end
def rh (sp:Sp) (om:List V) (E:XK) (t:TA):TE:=fun σ H Q=>t σ H fun vs H1=>sp (vs++om) H1 Q E
def Kp (C:Addr) (m:Str) (sp:Sp) (om:List V) (E:XK) (ta:TE) (t:TA):TE:=fun σ H Q=>ta σ H fun x H1=>∃a dx fs,x=.ref a∧H1 a=some (.ins C dx fs)∧fs.lookup m=none ∧
 t σ H1 fun vs H2=>sp (x::(vs++om)) H2 Q E
def PK (C:Addr) (sp:Sp) (om:List V) (E:XK) (t:TA):TE:=fun σ H Q=>t σ H fun vs H1=>∀x dx,H1 x=none→H1 dx=none→dx≠x →
 sp (.ref x::(vs++om)) (upd (upd H1 dx (.own x)) x (.ins C dx [])) (fun v H2=>v=.fU∧Q (.ref x) H2) E
def Binds (K:aP) (fd:FuncData) (ps:List Str) (ds:List Value):Prop :=
 ∀(s:Shared) (us:List Value),K.In s.heap→(us++ds).length=ps.length→BindsTo s fd ⟨us,[]⟩ (ps.zip (us++ds))
theorem Binds.all {K:aP} {fd:FuncData} {ps:List Str} (h:∀us:List Value,us.length=ps.length→bindArgs fd ⟨us,[]⟩=pure (ps.zip us)):Binds K fd ps []:=fun s us _ hl=>by
 rw[fV] at hl ⊢;exact .of_eq (h us hl)
def Passes (CX:vK) (X:Cx) (E:XK):Prop:=∀(pins:List (Addr×Obj)) (σ:St) (H:Hp) (s:Shared) (e:Value) (s':Shared),Inv X pins σ H s→CX X.stack H s E e s'→X.xe e s'
section
variable {X:Cx} {CX:vK} {k:Nat} {f C:Addr} {fd:FuncData} {ps:List Str} {sp:Sp} {om:List V} {ds:List Value} {E:XK} {x m:Str} {p pos apos:Pos} {e o:Expr} {es:List Expr} {ta:TE} {t:TA}
theorem sJ {pins:List (Addr×Obj)} {σ:St} {H:Hp} {s:Shared} {Q:VK} {us:List Value} {vs:List V} (F:jy X.prog X.w X.K X.mg X.base CX k f fd ps sp) (hr:fj k X.A) (hb:Binds X.K fd ps ds) (hd:Vals om ds) (hx:Passes CX X E)
  (I:Inv X pins σ H s) (r:Vals vs us) (h:sp (vs++om) H Q E):wpAny (model X.prog X.w) X.A (call (.ref f) us) (EP X pins σ Q) X.xe s:=by
 have r2:Vals (vs++om) (us++ds):=r.append hd;have hl:(us++ds).length=ps.length:=by rw[←r2.length];exact F.len _ _ _ _ h
 refine wpAny_call (codeAny_mono (F.run X.A X.stack s H ⟨us,[]⟩ (us++ds) (vs++om) Q E hr I.Vm (hb s us I.qM hl) r2 h) fun r s' hq=>?_);cases r with
 | error e=>exact hx pins σ H s e s' I hq
 | ok fl =>
  cases fl with
  | ret u=>exact I.after hq
  | next=>exact False.elim hq
  | brk=>exact False.elim hq
  | cont=>exact False.elim hq
theorem HI (F:jy X.prog X.w X.K X.mg X.base CX k f fd ps sp) (hr:fj k X.A) (hg:Gl X x) (hm:X.mg x=some (.ref f)) (hk:PySem.W.keepIn X.K (.ref f)=true) (hb:Binds X.K fd ps ds) (hd:Vals om ds) (hx:Passes CX X E)
  (ha:PA X (e::es) t) (pT:(x==("__debug__":Str))=false:=by decide) (he:starEach (e::es) X.env=(false,eval e X.env)::starEach es X.env:=by rfl) (gG:(backTo pos (starEach es X.env)).any (·.1)=false:=by rfl) :
  PE X (.Call (.Name x p) (e::es) [] pos) (rh sp om E t):=by
 intro pins s σ H Q I h;refine wpAny_Call_Name_kw (j9 I hg hm ?_ pT);refine PySem.W.callWith_K (h₀:=X.base) I.ok.mod.vD hk (dz (ha pos pins s σ H _ I h) fun us s1 ⟨vs,H1,I1,r,q⟩=>⟨I1.qM,?_⟩) he gG;exact sJ F hr hb hd hx I1 r q
theorem Nn (F:jy X.prog X.w X.K X.mg X.base CX k f fd ps sp) (hr:fj k X.A) (hg:Gl X x) (hm:X.mg x=some (.ref f)) (hk:PySem.W.keepIn X.K (.ref f)=true) (hb:Binds X.K fd ps ds) (hd:Vals om ds) (hx:Passes CX X E)
  (pT:(x==("__debug__":Str))=false:=by decide):PE X (.Call (.Name x p) [] [] pos) (rh sp om E EM):=by
 intro pins s σ H Q I h;refine wpAny_Call_Name_kw (j9 I hg hm ?_ pT);exact PySem.W.callWith_K0 I.qM hk (sJ (us:=[]) F hr hb hd hx I .nil h)
theorem HJ {pl:Sem Bool} (he:PE X o ta) (c:zu X.K C) (hm:EL X.K C m f) (F:jy X.prog X.w X.K X.mg X.base CX k f fd ps sp) (hr:fj k X.A) (hb:Binds X.K fd ps ds) (hd:Vals om ds) (hx:Passes CX X E) (ha:PA X (e::es) t)
  (qO:starEach (e::es) X.env=(false,eval e X.env)::starEach es X.env:=by rfl) (gG:(backTo pos (starEach es X.env)).any (·.1)=false:=by rfl)
  (ht:eval (.Call (.Attribute o m apos) (e::es) [] pos) X.env=(do
   let ov ←eval o X.env
   standAt apos.atName
   let (f,first) ←holding [ov] (getMethod ov m pl)
   callWith pos f first (backTo pos (starEach (e::es) X.env)) (backToKw pos (keywordEach [] X.env))):=by rfl) :
  PE X (.Call (.Attribute o m apos) (e::es) [] pos) (Kp C m sp om E ta t):=by
 intro pins s σ H Q I h;refine PySem.W.methodCall_KW (pl:=pl) (dz (he pins s σ H _ I h) fun u s1 ⟨x,H1,I1,rx,a,dx,fs,ex,ea,l,q⟩=>?_) ht;subst ex;obtain rfl:u=Value.ref a:=rx;refine nL I1 ea c hm l ?_;refine PySem.W.callWith_K (first:=[.ref a]) (h₀:=X.base) I.ok.mod.vD hm.kp (dz (ha pos pins s1 σ H1 _ I1 q) fun us s2 ⟨vs,H2,I2,r,q2⟩=>⟨I2.qM,?_⟩) qO gG;exact sJ (us:=.ref a::us) (vs:=.ref a::vs) F hr hb hd hx I2 (.cons rfl r) q2
structure Mk (K:aP) (C f:Addr):Prop where
 makes:PySem.W.makesIn K C=true
 init:PySem.W.findIn K (.ref C) "__init__"=some (some (.ref f))
 fn:PySem.W.isFn K (.ref f)=true
 kp:PySem.W.keepIn K (.ref C)=true
theorem EO {pins:List (Addr×Obj)} {σ:St} {H:Hp} {s:Shared} {Q:VK} {us:List Value} {vs:List V} (M:Mk X.K C f) (F:jy X.prog X.w X.K X.mg X.base CX k f fd ps sp) (hr:fj (k+1) X.A) (hb:Binds X.K fd ps ds) (hd:Vals om ds)
  (hx:Passes CX X E) (I:Inv X pins σ H s) (r:Vals vs us)
  (h:∀x dx,H x=none→H dx=none→dx≠x→sp (.ref x::(vs++om)) (upd (upd H dx (.own x)) x (.ins C dx [])) (fun v H2=>v=.fU∧Q (.ref x) H2) E) :
  wpAny (model X.prog X.w) X.A (call (.ref C) us) (EP X pins σ Q) X.xe s:=by
 have hq:=h (s.heap.objs.size+1) s.heap.objs.size (I.dr.fresh (Nat.le_succ _)) (I.dr.fresh (bB _)) (dI (EK _));have I2:=Inv.made (C:=C) I;have r2:Vals (V.ref (s.heap.objs.size+1)::(vs++om)) (Value.ref (s.heap.objs.size+1)::(us++ds)):=.cons rfl (r.append hd);have hl:(Value.ref (s.heap.objs.size+1)::us++ds).length=ps.length:=by
  have e:=r2.length;rw[F.len _ _ _ _ hq] at e;exact e.symm
 refine wpAny_call (Nm (f:=f) I.qM M.makes M.init (dE.mp M.fn) (codeAny_mono (F.run _ X.stack _ _ ⟨Value.ref (s.heap.objs.size+1)::us,[]⟩ (Value.ref (s.heap.objs.size+1)::(us++ds)) _ _ E (hr.make C us [])
  (I2.Vm.make C us []) (hb _ (Value.ref (s.heap.objs.size+1)::us) I2.qM hl) r2 hq) fun r s' FR=>?_))
 cases r with
 | error e=>exact hx pins σ _ _ e s' I2 FR
 | ok fl =>
  cases fl with
  | ret u =>
   obtain⟨v,H',I3,rv,ev,q3⟩:=I2.after FR;subst ev;exact⟨rv,⟨V.ref (s.heap.objs.size+1),H',I3,rfl,q3⟩⟩
  | next=>exact False.elim FR
  | brk=>exact False.elim FR
  | cont=>exact False.elim FR
theorem Nq (M:Mk X.K C f) (F:jy X.prog X.w X.K X.mg X.base CX k f fd ps sp) (hr:fj (k+1) X.A) (hg:Gl X x) (hm:X.mg x=some (.ref C)) (hb:Binds X.K fd ps ds) (hd:Vals om ds) (hx:Passes CX X E)
  (pT:(x==("__debug__":Str))=false:=by decide):PE X (.Call (.Name x p) [] [] pos) (PK C sp om E EM):=by
 intro pins s σ H Q I h;refine wpAny_Call_Name_kw (j9 I hg hm ?_ pT);exact PySem.W.callWith_K0 I.qM M.kp (EO (us:=[]) M F hr hb hd hx I .nil h)
end
section
variable {X:Cx} {CX:vK} {k:Nat} {f C:Addr} {fd:FuncData} {ps ks:List Str} {sp:Sp} {E:XK} {x m:Str} {p pos apos aeD:Pos} {e o:Expr} {es:List Expr} {kws:List Keyword} {te ta:TE} {t tk:TA} {nm:Option Str}
variable {g:List Value→List Value→List Value} {gV:List V→List V→List V}
end
structure aD (N P:List Str) (sc:Scope):Prop where
 kind:sc.kind=.function
 co:sc.isCoroutine=false
 gen:sc.isGenerator=false
 nd:N.Nodup
 pre:N.take P.length=P
 par:∀x∈P,sc.names.lookup x=some .local∨sc.names.lookup x=some .cell
 SQ:∀y∈sc.names,y.2≠.free
theorem A3 {kindOf:Str→Option NameKind} {x:Str}:∀{binds:List (Str×Value)} {m:Str→Option Value},(∀v,(x,v)∉binds)→bindL kindOf binds m x=m x
 | [],_,_=>rfl
 | (n,v)::r,m,h=>by
  unfold bindL;rw[A3 fun w hw=>h w (dv _ hw)];split
  ·have:x≠n:=by rintro rfl;exact h v fA
   simp[this]
  ·rfl
theorem A4 {kindOf:Str→Option NameKind} {x:Str}:∀{binds:List (Str×Value)} {m:Str→Option Value},(∀v,(x,v)∉binds)→bindC kindOf binds m x=m x
 | [],_,_=>rfl
 | (n,v)::r,m,h=>by
  unfold bindC;rw[A4 fun w hw=>h w (dv _ hw)];split
  ·rfl
  ·have:x≠n:=by rintro rfl;exact h v fA
   simp[this]
theorem A5 {kindOf:Str→Option NameKind} {x:Str} {v:Value}:∀{P:List Str} {vs:List Value} {i:Nat} {m:Str→Option Value},P.Nodup→P[i]?=some x→vs[i]?=some v→kindOf x=some .local →
  bindL kindOf (P.zip vs) m x=some v
 | [],_,_,_,_,h,_,_=>by simp at h
 | _::_,[],_,_,_,_,h,_=>by simp at h
 | p::P,w::vs,0,m,nd,h1,h2,hk=>by
  simp at h1 h2;subst h1;subst h2;show bindL kindOf ((p,w)::P.zip vs) m p=_;unfold bindL;rw[A3 fun v hv=>(zo.mp nd).1 (tV hv).1,ao hk];simp
 | p::P,w::vs,i+1,m,nd,h1,h2,hk=>by
  show bindL kindOf ((p,w)::P.zip vs) m x=_;unfold bindL;exact A5 (i:=i) (zo.mp nd).2 (by simpa using h1) (by simpa using h2) hk
theorem A6 {kindOf:Str→Option NameKind} {x:Str} {v:Value}:∀{P:List Str} {vs:List Value} {i:Nat} {m:Str→Option Value},P.Nodup→P[i]?=some x→vs[i]?=some v→kindOf x≠some .local →
  bindC kindOf (P.zip vs) m x=some v
 | [],_,_,_,_,h,_,_=>by simp at h
 | _::_,[],_,_,_,_,h,_=>by simp at h
 | p::P,w::vs,0,m,nd,h1,h2,hk=>by
  simp at h1 h2;subst h1;subst h2;show bindC kindOf ((p,w)::P.zip vs) m p=_;unfold bindC;rw[A4 fun v hv=>(zo.mp nd).1 (tV hv).1,ag hk];simp
 | p::P,w::vs,i+1,m,nd,h1,h2,hk=>by
  show bindC kindOf ((p,w)::P.zip vs) m x=_;unfold bindC;exact A6 (i:=i) (zo.mp nd).2 (by simpa using h1) (by simpa using h2) hk
def start (N:List Str) (vs:List V):St:=vs.map some++List.replicate (N.length-vs.length) none
def vN (CX:vK) (P:Program) (w:World) (K:aP) (mg:Str→Option Value) (base:Heap) (N:List Str) (qual:Str) (scope:Scope) (f:Addr) (cd:Value) (A:Around) (outer:List Env) (s:Shared) (H:Hp) (E:XK):Cx where
 prog:=P
 w:=w
 K:=K
 mg:=mg
 base:=base
 A:=A.deeper (envOfC qual scope s.heap.objs.size f cd)
 N:=N
 oJ:=s
 Pf:=H
 env:=envOfC qual scope s.heap.objs.size f cd
 outer:=outer
 stack:=envOfC qual scope s.heap.objs.size f cd::outer
 ex:=[]
 calm:=true
 fn:=fun _=>true
 pn:=[]
 xe:=fun e s'=>wpAny (model P w) (A.deeper (envOfC qual scope s.heap.objs.size f cd)) (leaving (envOfC qual scope s.heap.objs.size f cd) e) (fun _ Wg=>CX outer H s E e Wg) (fun e' Wg=>CX outer H s E e' Wg) s'
theorem ER {sc:Scope} {n:Nat} {x:Str} (h:sc.names.lookup x=some .cell):∃c,(cellsFrom n sc.names []).lookup x=some c:=by
 have q:=PySem.W.cellsFrom_some sc.names n [] (.inl h);exact Option.isSome_iff_exists.mp q
theorem Kq {CX:vK} {P:Program} {w:World} {K:aP} {mg:Str→Option Value} {base:Heap} {N ps:List Str} {qual:Str} {scope:Scope} {f:Addr} {cd:Value} {A:Around} {outer:List Env} {s s1:Shared} {H:Hp} {E:XK} {us:List Value} {vs:List V}
  (S:aD N ps scope) (hd:A.handled=none) (e0:A0 P w K mg base A outer s H) (hl:vs.length=ps.length) (r:Vals vs us)
  (x:InCallC s s.heap.objs.size (bindL (envOfC qual scope s.heap.objs.size f cd).kindOf (ps.zip us) fun _=>none) (cellsFrom (s.heap.objs.size+1) scope.names []) (bindC (envOfC qual scope s.heap.objs.size f cd).kindOf (ps.zip us) fun _=>none) s1) :
  Inv (vN CX P w K mg base N qual scope f cd A outer s H E) [] (start N vs) H s1:=by
 have gG:ps.length≤N.length:=by have:=a7 List.length S.pre;rw[fM] at this;omega
 obtain⟨h1,tk,rfl,hk⟩:=x.done;have Nr:∀b:Addr,b∉(vN CX P w K mg base N qual scope f cd A outer s H E).ex:=fun b z=>absurd (show b∈([]:List Addr) from z) (by simp);refine⟨⟨e0.mod,S.kind,rfl,rfl,bB _,fun y z c h1 h2=>?_,fun y hy=>?_,fun y c _ h=>?_,fun _=>hd,Around.frames_deeper e0.frames,.inr ⟨rfl,rfl⟩,fun b z=>absurd z (Nr b),e0.bs,e0.zp,fun b _ _=>Nr b,fun b z=>absurd z (Nr b),e0.mn,e0.DJ⟩,
  rfl,e0.bare,Un.kept hk,⟨_,x.toInCall.ns,fun i y v h1 h2 h3=>?_⟩,fun y c h=>⟨_,x.cell y c h⟩,e0.dr.fresh (bB _),fun y c h=>?_,fun p hp=>absurd (show p∈([]:List (Addr×Obj)) from hp) (by simp),e0.dr.kept hk,?_⟩
 ·exact name_of_addr x.apart (PySem.mem_of_lookup h1) (PySem.mem_of_lookup h2)
 ·have hy:scope.names.lookup y=some .cell∨scope.names.lookup y=some .free:=hy;rcases hy with hy | hy
  ·exact ER hy
  ·exact absurd rfl (S.SQ _ (PySem.mem_of_lookup hy))
 ·exact mw (x.above y c (PySem.mem_of_lookup h))
 ·have hi:i<vs.length:=by
   unfold start at h2;by_cases hi:i<vs.length
   ·exact hi
   ·rw[ue (by simpa using hi)] at h2;rw[EN] at h2;split at h2<;>cases h2
  have ha:vs[i]?=some v:=by
   unfold start at h2;rw[uf (by simpa using hi),aT] at h2;cases e:vs[i]? with
   | none=>rw[e] at h2;cases h2
   | some a=>rw[e] at h2;cases h2;rfl
  obtain⟨u,hu,rv⟩:=r.get ha;have hp:ps[i]?=some y:=by
   rw[←S.pre,List.getElem?_take_of_lt Kf];exact h1
  have YK:ps.Nodup:=by rw[←S.pre];exact S.nd.sublist (List.take_sublist _ _)
  refine⟨u,rv,?_⟩;rcases S.par y (uk hp) with k | k
  ·exact .inl ⟨k,A5 YK hp hu k⟩
  ·obtain⟨c,e⟩:=ER (n:=s.heap.objs.size+1) k;refine .inr ⟨.inl k,c,e,?_⟩;have q:=x.cell y c e;rw[A6 YK hp hu (by show scope.names.lookup y≠_;rw[k];decide)] at q;exact q
 ·exact e0.dr.fresh (mw (x.above y c (PySem.mem_of_lookup h)))
 ·unfold start;show _=N.length;rw[cT,aF,List.length_replicate];omega
theorem PL {CX:vK} {P:Program} {w:World} {K:aP} {mg:Str→Option Value} {base:Heap} {k:Nat} {f:Addr} {name qual:Str} {params:Arguments} {body:List Stmt} {scope:Scope} {dV kV doc pm bw ct oc:Value} {an od:Option Addr}
  {ni:Array (Option Value)} {N ps:List Str} {sp:Sp} (lk:K.lookup f=some ⟨oc,od,.func (PySem.W.fnOf name qual params body scope dV kV doc pm an bw ct),ni⟩) (AQ:PySem.W.codeIn K bw qual=true) (S:aD N ps scope)
  (len:∀vs H Q E,sp vs H Q E→vs.length=ps.length)
  (pU:∀(A:Around) (outer:List Env) (s:Shared) (H:Hp) (vs:List V) (Q:VK) (E:XK),fj k (A.deeper (envOfC qual scope s.heap.objs.size f bw))→sp vs H Q E →
   ∃t,qN (vN CX P w K mg base N qual scope f bw A outer s H E) body t∧t { nx:=fun _ H'=>Q .fU H',rt:=Q } (start N vs) H) :
  jy P w K mg base CX (k+1) f (PySem.W.fnOf name qual params body scope dV kV doc pm an bw ct) ps sp:=by
 refine⟨len,fun A outer s H args us vs Q E hr e0 hb r zv=>?_⟩;have hl:=len _ _ _ _ zv;have KX:K.In s.heap:=e0.mod.vD.keeps fun b o e=>(e0.bs b o e).1;have lim:s.heap.NoLimit:=e0.mod.nolimit.keeps fun b o e=>(e0.bs b o e).1;have Wh:∀y∈ps.zip us,scope.names.lookup y.1=some .local∨(scope.names.lookup y.1=some .cell∧((cellsFrom (s.heap.objs.size+1) scope.names []).lookup y.1).isSome=true):=fun ⟨n,v⟩ hy=>by
  rcases S.par n (tV hy).1 with q | q
  ·exact .inl q
  ·exact .inr ⟨q,PySem.W.cellsFrom_some _ _ _ (.inl q)⟩
 refine codeAny_call_function hr.depth (KX _ _ lk) rfl S.co S.gen rfl (PySem.W.codeRec_of KX AQ) (hb _ _ _ _ ?_);refine wpAny_newFunctionEnv_cells S.kind Wh fun env he s1 x=>?_;subst he;refine⟨lim.keeps x.toInCall.keep,codeAny_func ?_⟩;obtain⟨t,ht,hq⟩:=pU A outer s H vs Q E (hr.deeper _) zv;have I:Inv (vN CX P w K mg base N qual scope f bw A outer s H E) [] (start N vs) H s1:=Kq S hr.hd e0 hl r x;refine wpAny_mono (ht [] s1 (start N vs) H _ I hq) (fun fl s' hs=>?_) fun e s' hs=>hs;have fin:∀{σ':St} {H':Hp} {v:V} {u:Value},Inv (vN CX P w K mg base N qual scope f bw A outer s H E) [] σ' H' s'→RelV v u→Q v H'→CE outer P w H s Q u s' :=
  fun {σ' H' v u} J rv q=>⟨v,H',J.os,J.bare,J.base,J.dr,rv,q⟩
 cases fl with
 | ret u =>
  obtain⟨v,σ',H',J,rv,q⟩:=hs;exact fin J rv q
 | next =>
  obtain⟨σ',H',J,q⟩:=hs;exact fin (v:=V.fU) (u:=Value.none) J rfl q
 | brk =>
  obtain⟨_,_,_,q⟩:=hs;exact False.elim q
 | cont =>
  obtain⟨_,_,_,q⟩:=hs;exact False.elim q
end L2
namespace L2
open PySem PySem.Spec PyProof.Rows
section
variable {X:Cx} {x:Str} {p pos:Pos} {e:Expr} {es:List Expr} {t:TA} {id T:String} {r:List V→Hp→VK→Prop}
def tCB (r:List V→Hp→VK→Prop) (t:TA):TE:=fun σ H Q=>t σ H fun vs H1=>r vs H1 Q
theorem bW (hc:pQ X (.builtin id) r) (hg:Gl X x) (hm:X.mg x=none) (hv:bootBuiltins x=some (.builtin id)) (ha:PA X (e::es) t) (hn:x≠"__name__":=by decide) (pT:(x==("__debug__":Str))=false:=by decide)
  (he:starEach (e::es) X.env=(false,eval e X.env)::starEach es X.env:=by rfl) (gG:(backTo pos (starEach es X.env)).any (·.1)=false:=by rfl):PE X (.Call (.Name x p) (e::es) [] pos) (tCB r t):=by
 intro pins s σ H Q I h;refine wpAny_Call_Name_kw (sE I hg hm hv ?_ hn pT);exact PyProof.Rows.callWith_builtin1 (dz (ha pos pins s σ H _ I h) fun us s1 ⟨vs,H1,I1,r1,q1⟩=>hc pins s1 σ H1 vs us Q I1 r1 q1) he gG
end
end L2
namespace HT
open PySem PyProof.Rows
section
open PySem.SeqAt
open PySem.AutoSeq1 (wpAny_loadPart')
open PySem.MeetsSeq PySem.MeetsSeq2 PySem.MeetsSeq3
end
section
variable {prog:Program} {w:World} {A:Around} {E:Value→Shared→Prop} {s:Shared}
def fH (n d:Nat):Option Int→Nat
 | none=>d
 | some v=>if v<0 then (v+(n:Int)).toNat else min v.toNat n
theorem sP (n d:Nat):fH n d none=d:=rfl
theorem oR (n d k:Nat):fH n d (some (k:Int))=min k n:=by
 show (if (k:Int)<0 then ((k:Int)+(n:Int)).toNat else min (k:Int).toNat n)=min k n;rw[ag Kf,aN]
theorem SS (n d:Nat) (hd:d≤n) (o:Option Int):fH n d o≤n:=by
 cases o with
 | none=>exact hd
 | some v =>
  show (if v<0 then (v+(n:Int)).toNat else min v.toNat n)≤n;by_cases hv:v<0
  ·rw[ao hv];omega
  ·rw[ag hv];exact Nat.min_le_right _ _
theorem HK (v:Int) (n d:Nat):(if v<0 then max (v+(n:Int)) 0 else min v (n:Int))=((fH n d (some v):Nat):Int):=by
 show (if v<0 then max (v+(n:Int)) 0 else min v (n:Int))=(((if v<0 then (v+(n:Int)).toNat else min v.toNat n):Nat):Int);by_cases hv:v<0
 ·simp only[ao hv];omega
 ·simp only[ag hv];omega
theorem HL (lo hi:Option Int) (n:Nat):Builtin.Slice.sliceAdjust lo hi 1 (n:Int)=(((fH n 0 lo:Nat):Int),((fH n n hi:Nat):Int)):=by
 have h1:¬((1:Int)<0):=by omega
 unfold Builtin.Slice.sliceAdjust;simp only[h1,aM];refine Prod.ext ?_ ?_
 ·cases lo with
  | none=>rfl
  | some v=>exact HK v n 0
 ·cases hi with
  | none=>rfl
  | some v=>exact HK v n n
theorem HM (i j:Nat):Builtin.Slice.slicePlaces (i:Int) (j:Int) 1=j-i:=by
 unfold Builtin.Slice.slicePlaces;have h1:(1:Int)>0:=by omega
 simp only[h1,aJ,Int.ediv_one];split<;>omega
theorem yJ {v:Value} {o:Option Int} {Q:Option Int→Shared→Prop} (p:IsPart v o) (h:Q o s):wpAny (model prog w) A (Builtin.Slice.slicePartIndex v) Q E s:=by
 cases p with
 | none=>exact slicePart_none h
 | int i t=>exact slicePart_int h
theorem vO {sl:Addr} {vl vu:Value} {lo hi:Option Int} {n:Nat} {Q:Int×Int×Nat→Shared→Prop} (hs:s.heap.IsSliceOf sl vl vu .none) (pl:IsPart vl lo) (pu:IsPart vu hi)
  (h:Q (((fH n 0 lo:Nat):Int),1,fH n n hi-fH n 0 lo) s):wpAny (model prog w) A (Builtin.Slice.sliceApplied (.ref sl) (pure (n:Int))) Q E s:=by
 obtain⟨os,PM,PN,SU⟩:=id hs;unfold Builtin.Slice.sliceApplied Builtin.Slice.sliceFields;refine wpAny_bind (wpAny_bind (wpAny_field PM SU (x:=vl) rfl (wpAny_bind (wpAny_field PM SU (x:=vu) rfl (wpAny_bind (wpAny_field PM SU (x:=.none) rfl (wpAny_pure ?_)))))));refine wpAny_bind (slicePart_none ?_);show wpAny _ _ (if ((1:Int)==0)=true then _ else _) _ _ s;rw[ag J9];refine wpAny_bind (yJ pl (wpAny_bind (yJ pu (wpAny_bind (wpAny_pure ?_)))));show wpAny _ _ (match Builtin.Slice.sliceAdjust lo hi 1 (n:Int) with | (lo,hi)=>pure (lo,(1:Int),Builtin.Slice.slicePlaces lo hi 1)) _ _ s;rw[HL lo hi n];show wpAny _ _ (pure (((fH n 0 lo:Nat):Int),(1:Int),Builtin.Slice.slicePlaces ((fH n 0 lo:Nat):Int) ((fH n n hi:Nat):Int) 1)) _ _ s;rw[HM];exact wpAny_pure h
theorem Nt (xs:Array Value) (i k:Nat):((List.range k).filterMap fun (m:Nat)=>xs[((i:Int)+(m:Int)*1).toNat]?).toArray=((xs.toList.drop i).take k).toArray:=by
 have e:(fun (m:Nat)=>xs[((i:Int)+(m:Int)*1).toNat]?)=fun m=>xs[i+m]?:=by
  funext m;have:((i:Int)+(m:Int)*1).toNat=i+m:=by omega
  rw[this]
 rw[e];have:=pick_run xs i k;rw[List.filterMap_map] at this;have e2:((fun x=>xs[x]?) ∘ fun x=>i+x)=fun m=>xs[i+m]?:=rfl;rw[e2] at this;rw[this]
theorem uG {t sl:Addr} {items:Array Value} {vl vu:Value} {lo hi:Option Int} {Q:Value→Shared→Prop} (ht:IsTup s.heap t items) (hs:s.heap.IsSliceOf sl vl vu .none) (pl:IsPart vl lo) (pu:IsPart vu hi)
  (hw:¬(fH items.size 0 lo=0∧fH items.size items.size hi=items.size))
  (h:Q (.ref s.heap.objs.size) { s with heap:=s.heap.push { cls:=.type "tuple",data:=.seq ((items.toList.drop (fH items.size 0 lo)).take (fH items.size items.size hi-fH items.size 0 lo)).toArray } })
  (hsz:items.size≤sizeLine):wpAny (model prog w) A (getItem (.ref t) (.ref sl)) Q E s:=by
 have FT:sizeOk (.seq ((items.toList.drop (fH items.size 0 lo)).take (fH items.size items.size hi-fH items.size 0 lo)).toArray):=by
  show ((items.toList.drop (fH items.size 0 lo)).take (fH items.size items.size hi-fH items.size 0 lo)).toArray.size≤sizeLine;rw[cg,fM,et,yP];omega
 have hj:fH items.size items.size hi≤items.size:=SS _ _ (bB _) hi;obtain⟨os,PM,PN,SU⟩:=id hs;have hTs:s.TypeIs (.ref sl) "slice":=⟨os,PM,PN⟩;unfold getItem
 try with_reducible refine wpAny_holding ?_
 first | refine wpAny_bind (wpAny_pure ?_) | skip
 refine wpAny_bind (wpAny_sequenceKey ht.typeIs J9 ?_);refine wpAny_bind (wpAny_callSpecial?_slot (name:=Str.ofString "__getitem__") ht.typeIs EX
  (wpAny_call_entry EX ht.typeIs entry_tuple_getitem ?_ (args_tuple_getitem _ _)))
 show wpAny _ _ (Builtin.Tuple.tupleItemsOf (.ref t) >>= _) _ _ s;refine wpAny_bind (tupleItemsOf_ ht ?_);refine wpAny_bind (wpAny_typeOf hTs ?_);rw[ao J9];refine wpAny_bind (vO hs pl pu ?_);have PQ:¬((((fH items.size 0 lo:Nat):Int)==0&&(1:Int)==1&&(fH items.size items.size hi-fH items.size 0 lo)==items.size)=true):=by
  intro q;rw[cI,cI] at q;have q1:((fH items.size 0 lo:Nat):Int)=0:=eq_of_beq q.1.1;have q2:fH items.size items.size hi-fH items.size 0 lo=items.size:=eq_of_beq q.2;exact hw ⟨Kf,Kf⟩
 show wpAny _ _ (if (((fH items.size 0 lo:Nat):Int)==0&&(1:Int)==1&&(fH items.size items.size hi-fH items.size 0 lo)==items.size)=true then _ else _) _ _ s;rw[ag PQ,Nt]
 first
  | exact wpAny_bind (m:=Builtin.Tuple.tupleExact _) (wpAny_newObj_type (wpAny_pure ⟨_,rfl,wpAny_pure h⟩) FT)
  | exact wpAny_bind (m:=Builtin.Tuple.tupleExact _) (wpAny_newObj_type (wpAny_bind (wpAny_pure (wpAny_pure ⟨_,rfl,wpAny_pure h⟩))) FT)
  | exact wpAny_bind (wpAny_bind (m:=Builtin.Tuple.tupleExact _) (wpAny_newObj_type (wpAny_pure (wpAny_pure ⟨_,rfl,wpAny_pure h⟩)) FT))
  | exact wpAny_bind (wpAny_bind (m:=Builtin.Tuple.tupleExact _) (wpAny_newObj_type (wpAny_pure ⟨_,rfl,wpAny_pure h⟩) FT))
end
end HT
namespace L2
open PySem PySem.Spec PyProof.Rows
abbrev TO:=St→Hp→(Option Int→Hp→Prop)→Prop
def PO (X:Cx) (e:Option Expr) (t:TO):Prop :=
 ∀(pins:List (Addr×Obj)) (s:Shared) (σ:St) (H:Hp) (Q:Option Int→Hp→Prop),Inv X pins σ H s→t σ H Q →
  wpAny (model X.prog X.w) X.A (evalPart e X.env) (fun u s'=>∃o H',Inv X pins σ H' s'∧IsPart u o∧Q o H') X.xe s
def PR:TO:=fun _ H Q=>Q none H
def Wi (t:TE):TO:=fun σ H Q=>t σ H fun x H1=>∃i,x=.int i∧Q (some i) H1
section
variable {X:Cx} {e:Expr} {te:TE} {lo hi:Option Expr} {tl th:TO} {pos p2:Pos}
theorem i8:PO X none PR:=by
 intro pins s σ H Q I h;rw[evalPart_none];exact wpAny_pure ⟨none,H,I,.none,h⟩
theorem dS (h:PE X e te):PO X (some e) (Wi te):=by
 intro pins s σ H Q I hw;rw[evalPart_some];refine dz (h pins s σ H _ I hw) fun u s1 ⟨x,H1,I1,r1,q1⟩=>?_;obtain⟨i,rfl,q⟩:=q1;obtain⟨t,rfl⟩:=r1;exact⟨some i,H1,I1,.int i t,q⟩
def SV (X:Cx) (r:V→Option Int→Option Int→Hp→VK→Prop):Prop :=
 ∀(pins:List (Addr×Obj)) (s:Shared) (σ:St) (H:Hp) (x:V) (v vl vu:Value) (lo hi:Option Int) (sl:Addr) (Q:VK),Inv X pins σ H s→RelV x v→s.heap.IsSliceOf sl vl vu .none→IsPart vl lo→IsPart vu hi→r x lo hi H Q →
  ∃T id,typeLookup (.type T) "__getitem__"=pure (some (.builtin id))∧s.TypeIs v T∧wpAny (model X.prog X.w) X.A (getItem v (.ref sl)) (EP X pins σ Q) X.xe s
def tSl (r:V→Option Int→Option Int→Hp→VK→Prop) (te:TE) (tl th:TO):TE:=fun σ H Q=>te σ H fun x H1=>tl σ H1 fun l H2=>th σ H2 fun u H3=>r x l u H3 Q
theorem eV {r:V→Option Int→Option Int→Hp→VK→Prop} (hr:SV X r) (he:PE X e te) (hl:PO X lo tl) (hu:PO X hi th):PE X (.Subscript e (.Slice lo hi none p2) pos) (tSl r te tl th):=by
 intro pins s σ H Q I h;refine Subscript_ (dz (he pins s σ H _ I h) fun v s1 ⟨x,H1,I1,r1,q1⟩=>?_);refine wpAny_Slice (dz (hl pins s1 σ H1 _ I1 q1) fun vl s2 ⟨l,H2,I2,pl,q2⟩=>dz (hu pins s2 σ H2 _ I2 q2) fun vu s3 ⟨u,H3,I3,pu,q3⟩=>?_);rw[evalPart_none];refine wpAny_pure ?_;have I4:Inv X pins σ H3 { s3 with heap:=s3.heap.push { cls:=.type "slice",data:=.fields #[vl,vu,.none] } }:=I3.kept (t':=s3.toks) fun b ob q=>Heap.get?_push_of_some _ q;obtain⟨T,id,hT,ht,hg⟩:=hr pins { s3 with heap:=s3.heap.push { cls:=.type "slice",data:=.fields #[vl,vu,.none] } } σ H3 x v vl vu l u s3.heap.objs.size Q I4 r1 (Heap.IsSliceOf.new ..) pl pu q3;show wpAny (model X.prog X.w) X.A (subscriptTail e (.Slice lo hi none p2) v (.ref s3.heap.objs.size)) (EP X pins σ Q) X.xe { s3 with heap:=s3.heap.push { cls:=.type "slice",data:=.fields #[vl,vu,.none] } };exact tail_any (ops:=[.ref s3.heap.objs.size,v]) ht hT hg (by with_unfolding_all rfl)
def gb (xs:List V) (lo hi:Option Int):List V:=(xs.drop (HT.fH xs.length 0 lo)).take (HT.fH xs.length xs.length hi-HT.fH xs.length 0 lo)
theorem vP (xs:List V) (lo hi:Option Int):(gb xs lo hi).length≤xs.length:=by
 unfold gb;rw[fM,et];omega
def YL (K:aP):V→Option Int→Option Int→Hp→VK→Prop:=fun x lo hi H Q=>∃a xs,x=.ref a∧j3 K H a xs ∧
 ¬(HT.fH xs.length 0 lo=0∧HT.fH xs.length xs.length hi=xs.length)∧∀p,H p=none→Q (.ref p) (upd H p (.tup (gb xs lo hi)))
theorem SW:SV X (YL X.K):=by
 intro pins s σ H x v vl vu lo hi sl Q I rx hs pl pu h;obtain⟨a,xs,rfl,hx,hw,q⟩:=h;cases rx;obtain⟨bq,r,ht,hz⟩:=I.tuple hx;have hlen:bq.toArray.size=xs.length:=by rw[cg];exact r.length.symm
 refine⟨"tuple",_,EX.lookup,ht.typeIs,?_⟩;refine HT.uG ht hs pl pu (by rw[hlen];exact hw) ?_ (by rw[hlen];exact hz);rw[hlen];refine⟨.ref s.heap.objs.size,_,I.laid (t':=s.toks) (o:=.tup (gb xs lo hi)) (fun b ob q=>Heap.get?_push_of_some _ q) (bB _) ?_,rfl,q _ (I.dr.fresh (bB _))⟩;exact⟨bZ (vP xs lo hi) hz,_,(r.drop (HT.fH xs.length 0 lo)).take (HT.fH xs.length xs.length hi-HT.fH xs.length 0 lo),IsTup.new _ _⟩
end
end L2
namespace L2
open PySem PySem.Spec PyProof.Rows
def xK (n:Nat) (i:Int):Option Nat:=if 0≤i then (if i<n then some i.toNat else none) else if -(n:Int)≤i then some (i+n).toNat else none
def lB {α:Type} (xs:List α) (i:Int):Option α:=(xK xs.length i).bind fun j=>xs[j]?
theorem HN {n:Nat} {i:Int} {j:Nat} (h:xK n i=some j):seqIndex? i n=some j∧j<n∧-(n:Int)≤i∧i<n:=by
 unfold xK at h;by_cases h0:0≤i
 ·rw[ao h0] at h;by_cases h1:i<n
  ·rw[ao h1] at h;have e:i.toNat=j:=bM h;exact⟨by rw[seqIndex_of h0 h1,e],Kf,Kf,h1⟩
  ·rw[ag h1] at h;cases h
 ·rw[ag h0] at h;by_cases h1:-(n:Int)≤i
  ·rw[ao h1] at h;have e:(i+n).toNat=j:=bM h;exact⟨by rw[seqIndex_neg Kf h1,e],Kf,h1,Kf⟩
  ·rw[ag h1] at h;cases h
theorem HP {α:Type} {xs:List α} {i:Int} {v:α} (h:lB xs i=some v):∃j,seqIndex? i xs.length=some j∧xs[j]?=some v∧j<xs.length∧-(xs.length:Int)≤i∧i<xs.length:=by
 unfold lB at h;cases e:xK xs.length i with
 | none=>rw[e] at h;cases h
 | some j =>
  rw[e] at h;obtain⟨h1,h2,h3,h4⟩:=HN e;exact⟨j,h1,h,h2,h3,h4⟩
def A8 (b:Expr):Prop:=∀o i,subscripted b false o i=operate [o,i] (getItem o i)
def SX (X:Cx) (r:R2):Prop :=
 ∀(value slice:Expr) (pins:List (Addr×Obj)) (s:Shared) (σ:St) (H:Hp) (x y:V) (v u:Value) (Q:VK),Inv X pins σ H s→RelV x v→RelV y u→r x y H Q →
  subscripted slice false v u=operate [v,u] (getItem v u)→wpAny (model X.prog X.w) X.A (subscriptTail value slice v u) (EP X pins σ Q) X.xe s
def YM (X:Cx) (id:String) (r:V→List V→Hp→VK→Prop):Prop :=
 ∀(pins:List (Addr×Obj)) (s:Shared) (σ:St) (H:Hp) (x:V) (xs:List V) (v:Value) (us:List Value) (Q:VK),Inv X pins σ H s→RelV x v→Vals xs us→r x xs H Q →
  wpAny (model X.prog X.w) X.A (call (.builtin id) (v::us)) (EP X pins σ Q) X.xe s
section
variable {X:Cx} {a b:Expr} {ta tb:TE} {pos:Pos}
theorem Wj {r:R2} (hr:SX X r) (ha:PE X a ta) (hb:PE X b tb) (hs:A8 b):PE X (.Subscript a b pos) (Kl r ta tb):=by
 intro pins s σ H Q I h;exact Subscript_ (Pr ha hb I h fun v u s2 x y H2 I2 rx ry q=>hr a b pins s2 σ H2 x y v u Q I2 rx ry q (hs _ _))
def YN (K:aP):R2:=fun x y H Q=>∃p xs i v,x=.ref p∧y=.int i∧bU K H p xs∧lB xs i=some v∧Q v H
def YO (K:aP):R2:=fun x y H Q=>∃p xs i v,x=.ref p∧y=.int i∧j3 K H p xs∧lB xs i=some v∧Q v H
theorem aZ:SX X (YN X.K):=by
 intro value slice pins s σ H x y v u Q I rx ry h hs;obtain⟨p,xs,i,z,rfl,rfl,hq,he,q⟩:=h;cases rx;obtain⟨t,rfl⟩:=ry;obtain⟨bq,r,pl,hz⟩:=I.list hq;obtain⟨j,h1,h2,h3,h4,h5⟩:=HP he;obtain⟨w,ew,Wk⟩:=r.get h2;have hl:=r.length;have hn:=sI;have fin:EP X pins σ Q w s:=⟨z,H,I,Wk,q⟩;by_cases h0:0≤i
 ·have hj:i.toNat=j:=by
   rw[seqIndex_of h0 h5] at h1;exact bM h1
  exact item_listR pl.isList h0 Kf (by rw[hj];simpa using ew) fin hs
 ·have hj:(i+(bq.toArray.size:Int)).toNat=j:=by
   rw[seqIndex_neg Kf h4] at h1;rw[cg,←hl];exact bM h1
  exact subscriptTail_builtinR (x:=w) pl.isList.typeIs slot_list_getitem.lookup
   (wpAny_getItem_list_neg (Q:=fun r s'=>r=w∧EP X pins σ Q r s') pl.isList Kf (by rw[cg]<;>omega) Kf (by rw[hj];simpa using ew) ⟨rfl,fin⟩) hs
theorem vQ:SX X (YO X.K):=by
 intro value slice pins s σ H x y v u Q I rx ry h hs;obtain⟨p,xs,i,z,rfl,rfl,hq,he,q⟩:=h;cases rx;obtain⟨t,rfl⟩:=ry;obtain⟨bq,r,pl,hz⟩:=I.tuple hq;obtain⟨j,h1,h2,h3,h4,h5⟩:=HP he;obtain⟨w,ew,Wk⟩:=r.get h2;have hl:=r.length;have hn:=sI;have fin:EP X pins σ Q w s:=⟨z,H,I,Wk,q⟩;exact subscriptTail_builtinR (x:=w) pl.typeIs slot_tuple_getitem.lookup
  (getItem_tuple (j:=j) (Q:=fun r s'=>r=w∧EP X pins σ Q r s') pl Kf Kf (by rw[cg,←hl];exact h1) (by simpa using ew) ⟨rfl,fin⟩) hs
theorem HQ (bq:List Value) (n j:Nat) (u:Value):Obj.mapSeq (·.setIfInBounds j u) { cls:=.type "list",data:=.seq bq.toArray n }={ cls:=.type "list",data:=.seq (bq.set j u).toArray n }:=by
 simp[Obj.mapSeq]
theorem Inv.lst {pins:List (Addr×Obj)} {σ:St} {H:Hp} {s:Shared} {p:Addr} {xs:List V} (I:Inv X pins σ H s) (h:H p=some (.lst xs)) :
  ∃(bq:List Value) (n:Nat),Vals xs bq∧s.heap.get? p=some { cls:=.type "list",data:=.seq bq.toArray n }∧xs.length≤sizeLine:=by
 obtain⟨z,bq,n,r,e⟩:=I.dr p _ h;exact⟨bq,n,r,e,z⟩
theorem Inv.SY {pins:List (Addr×Obj)} {σ:St} {H:Hp} {s:Shared} {p:Addr} {xs ys:List V} {bq nF:List Value} {n n':Nat} {f:Obj→Obj} (I:Inv X pins σ H s) (h:H p=some (.lst xs))
  (ho:s.heap.get? p=some { cls:=.type "list",data:=.seq bq.toArray n }) (hf:f { cls:=.type "list",data:=.seq bq.toArray n }={ cls:=.type "list",data:=.seq nF.toArray n' }) (r:Vals ys nF) (hz:ys.length≤sizeLine) (t:Nat) :
  Inv X pins σ (upd H p (.lst ys)) { s with heap:=s.heap.update p f,toks:=t }:=by
 have e:(s.heap.update p f).get? p=some { cls:=.type "list",data:=.seq nF.toArray n' }:=by
  rw[Heap.get?_update_self f ho (by rw[hf]<;>rfl),hf]
 refine I.write (x:=p) (e:=p) (by rw[h];trivial) (.inl rfl) (fun b u hb q=>(Heap.get?_update_other _ _ (j7 hb)).trans q) ⟨_,e⟩ ?_;exact⟨hz,nF,n',r,e⟩
def Wl:V→V→V→Hp→(Hp→Prop)→Prop:=fun o i v H Q=>∃p xs k j,o=.ref p∧i=.int k∧H p=some (.lst xs)∧xK xs.length k=some j∧Q (upd H p (.lst (xs.set j v)))
theorem set_list:Vg X Wl:=by
 intro pins s σ H o i v ov iv u Q I ro ri rv h;obtain⟨p,xs,k,j,rfl,rfl,hp,hj,q⟩:=h;cases ro;obtain⟨t,rfl⟩:=ri;obtain⟨bq,n,r,ho,hz⟩:=I.lst hp;obtain⟨h1,h2,h3,h4⟩:=HN hj;have hl:=r.length;have hn:=sI;have I':Inv X pins σ (upd H p (.lst (xs.set j v))) { s with heap:=s.heap.update p (Obj.mapSeq (·.setIfInBounds j u)) } :=
  I.SY hp ho (HQ bq n j u) (r.set rv j) (by rw[Fb];exact hz) s.toks
 by_cases h0:0≤k
 ·have hk:k.toNat=j:=by
   rw[seqIndex_of h0 h4] at h1;exact bM h1
  exact PySem.W.ki_setAt ho h0 Kf (by rw[cg,←hl];exact h4) (by rw[hk];exact⟨_,I',q⟩)
 ·have hk:(k+(bq.toArray.size:Int)).toNat=j:=by
   rw[seqIndex_neg Kf h3] at h1;rw[cg,←hl];exact bM h1
  exact PySem.W.ki_setBack ho Kf (by rw[cg,←hl];exact h3) Kf (by rw[hk];exact⟨_,I',q⟩)
theorem DO (lo hi:Option Int) (n:Nat):(sliceBounds lo hi none n).1=((HT.fH n 0 lo:Nat):Int)∧(sliceBounds lo hi none n).2.1=((HT.fH n n hi:Nat):Int)∧(sliceBounds lo hi none n).2.2=1:=by
 refine⟨?_,?_,rfl⟩
 ·cases lo with
  | none=>simp[sliceBounds,HT.fH]
  | some i =>
   simp only[sliceBounds,HT.fH,Option.getD_none,show (1:Int)>0 by decide,aJ];by_cases h:i<0
   ·simp only[h,aJ]<;>omega
   ·simp only[h,aM]<;>omega
 ·cases hi with
  | none=>simp[sliceBounds,HT.fH]
  | some i =>
   simp only[sliceBounds,HT.fH,Option.getD_none,show (1:Int)>0 by decide,aJ];by_cases h:i<0
   ·simp only[h,aJ]<;>omega
   ·simp only[h,aM]<;>omega
theorem A9 (bq:List Value) (lo hi:Option Int):slicePick bq.toArray lo hi none=((bq.drop (HT.fH bq.length 0 lo)).take (HT.fH bq.length bq.length hi-HT.fH bq.length 0 lo)).toArray:=by
 obtain⟨h1,h2,h3⟩:=DO lo hi bq.toArray.size;unfold slicePick;rw[h1,h2,h3];simp only[sliceRange_one,pick_run,cg]<;>rfl
def Vn (K:aP):V→Option Int→Option Int→Hp→VK→Prop:=fun x lo hi H Q=>∃a xs,x=.ref a∧bU K H a xs∧∀p,H p=none→Q (.ref p) (upd H p (.lst (gb xs lo hi)))
theorem fW:SV X (Vn X.K):=by
 intro pins s σ H x v vl vu lo hi sl Q I rx hs pl pu h;obtain⟨a,xs,rfl,hx,q⟩:=h;cases rx;obtain⟨bq,r,ht,hz⟩:=I.list hx;have hlen:=r.length;refine⟨"list",_,slot_list_getitem.lookup,ht.isList.typeIs,?_⟩;refine wpAny_getItem_list_slice ht.isList hs pl pu .none (by simp) ?_ (by rw[cg]<;>omega);rw[A9,←hlen];refine⟨.ref s.heap.objs.size,_,I.laid (t':=s.toks) (o:=.lst (gb xs lo hi)) (fun b ob q=>Heap.get?_push_of_some _ q) (bB _) ?_,rfl,q _ (I.dr.fresh (bB _))⟩;exact⟨bZ (vP xs lo hi) hz,_,0,(r.drop (HT.fH xs.length 0 lo)).take (HT.fH xs.length xs.length hi-HT.fH xs.length 0 lo),Heap.get?_push_size _ rfl⟩
theorem cx:pQ X (.builtin "len") (fun xs H Q=>∃p ys,xs=[.ref p]∧(bU X.K H p ys∨j3 X.K H p ys)∧Q (.int ys.length) H):=by
 intro pins s σ H xs us Q I r h;obtain⟨p,ys,rfl,hq,q⟩:=h;obtain⟨u,rfl,rx⟩:=vals1 r;cases rx;have hn:=sI;rcases hq with hq | hq
 ·obtain⟨bq,r',pl,hz⟩:=I.list hq;have hlen:=r'.length;exact Calls.call_len_list pl.isList (by simp only[cg]<;>omega) ⟨.int ys.length,H,I.tok _,⟨s.toks+1,by rw[cg,hlen]⟩,q⟩
 ·obtain⟨bq,r',pl,hz⟩:=I.tuple hq;have hlen:=r'.length;exact len_tuple pl (by simp only[cg]<;>omega) ⟨.int ys.length,H,I.tok _,⟨s.toks+1,by rw[cg,hlen]⟩,q⟩
def YQ (K:aP) (T:String) (x:V) (H:Hp):Prop:=match x with
 | .str _=>T="str"
 | .int _=>T="int"
 | .ref p=>(T="list"∧∃xs,bU K H p xs)∨(T="tuple"∧∃o,K.lookup p=some o∧o.cls=.type "tuple"∧o.dict=none) ∨
  (T="dict"∧∃Hl,H p=some (.dK Hl))∨(T="set"∧∃S n,H p=some (.set S n))
 | _=>False
theorem Mn {pins:List (Addr×Obj)} {σ:St} {H:Hp} {s:Shared} {T:String} {x:V} {v:Value} (I:Inv X pins σ H s) (r:RelV x v) (ty:YQ X.K T x H) :
  s.TypeIs v T∧∀a,v=.ref a→∃ob,s.heap.get? a=some ob∧ob.dict=none:=by
 cases x with
 | str z =>
  obtain⟨t,rfl⟩:=r;cases (show T="str" from ty);exact⟨typeIs_str s z t,fun _ e=>nomatch e⟩
 | int i =>
  obtain⟨t,rfl⟩:=r;cases (show T="int" from ty);exact⟨typeIs_int s i t,fun _ e=>nomatch e⟩
 | ref p =>
  cases r;rcases ty with ⟨rfl,xs,hq⟩ | ⟨rfl,o,hk,hc,hd⟩ | ⟨rfl,hk⟩ | ⟨rfl,S,n,hk⟩
  ·obtain⟨bq,_,pl,_⟩:=I.list hq;refine⟨pl.isList.typeIs,fun a e=>?_⟩;cases e;obtain⟨o,n,e,c,hd,_⟩:=pl;exact⟨o,e,hd⟩
  ·refine⟨⟨o,I.qM p o hk,hc⟩,fun a e=>?_⟩;cases e;exact⟨o,I.qM _ o hk,hd⟩
  ·have z:∃o,s.heap.get? p=some o∧o.ExactDict:=by
    obtain⟨Hl,hk⟩:=hk;obtain⟨_,_,_,_,o,_,_,e,ex,_⟩:=I.dr p _ hk;exact⟨o,e,ex⟩
   obtain⟨o,e,ex⟩:=z;refine⟨⟨o,e,ex.1⟩,fun a e2=>?_⟩;cases e2;exact⟨o,e,ex.2.1⟩
  ·obtain⟨o,_,_,_,e,ex,_⟩:=I.dr p _ hk;refine⟨⟨o,e,ex.1⟩,fun a e2=>?_⟩;cases e2;exact⟨o,e,ex.2.1⟩
 | _=>exact False.elim ty
def tBM (K:aP) (T:String) (r:V→List V→Hp→VK→Prop) (to:TE) (t:TA):TE:=fun σ H Q=>to σ H fun x H1=>YQ K T x H1∧t σ H1 fun xs H2=>r x xs H2 Q
variable {o e:Expr} {es:List Expr} {to:TE} {t:TA} {name:Str} {apos qD:Pos} {T id:String} {r:V→List V→Hp→VK→Prop}
theorem Ks (pa:PlainAttrs T) (slot:Slot T name id) (Nu:typeOf (.builtin id)=pure (.type "method_descriptor")) (hm:YM X id r) (ho:PE X o to) (ha:PA X (e::es) t)
  (uH:attributeBase o name X.env (eval o X.env)=eval o X.env:=by rfl)
  (YR:((backTo qD (starEach (e::es) X.env)).all (fun x=>!x.1)&&(backToKw qD (keywordEach [] X.env)).all (fun x=>x.1.isSome)
  &&decide ((e::es).length+([]:List Keyword).length+(if ([]:List Keyword).isEmpty then 0 else 1)<30))=true:=by rfl)
  (Kt:(apos.endLine==qD.line)=true:=by rfl) (hs:starEach (e::es) X.env=(false,eval e X.env)::starEach es X.env:=by rfl) (SZ:(backTo qD (starEach es X.env)).any (·.1)=false:=by rfl) :
  PE X (.Call (.Attribute o name apos) (e::es) [] qD) (tBM X.K T r to t):=by
 intro pins s σ H Q I h;refine wpAny_Call_method_late uH YR Kt rfl (dz (ho pins s σ H _ I h) fun v s1 ⟨x,H1,I1,r1,ty,q1⟩=>?_);obtain⟨h1,h2⟩:=Mn I1 r1 ty;refine⟨T,id,pa,slot,Nu,h1,h2,?_⟩;have hA:=ha qD pins s1 σ H1 _ I1 q1;rw[hs] at hA ⊢;refine Calls.callWith_builtin (by show (false||(backTo qD (starEach es X.env)).any (·.1))=false;rw[SZ]<;>rfl) (Calls.evalArgs_plain ?_);exact dz hA fun us s2 ⟨vs,H2,I2,r2,q2⟩=>hm pins s2 σ H2 x vs v us Q I2 r1 r2 q2
end
end L2
namespace L2
open PySem PySem.Spec PyProof.Rows
def YS (X:Cx) (id:String) (r:V→List V→Hp→VK→Prop):Prop :=
 ∀(pins:List (Addr×Obj)) (s:Shared) (σ:St) (H:Hp) (x:V) (xs:List V) (v:Value) (us:List Value) (Q:VK),Inv X pins σ H s→RelV x v→Vals xs us→r x xs H Q →
  wpAny (model X.prog X.w) X.A (call (.builtin id) (v::us)) (EP X pins σ Q) X.xe s
theorem Vals.one:∀{x:V} {us:List Value},Vals [x] us→∃u,us=[u]∧RelV x u
 | _,_,.cons r .nil=>⟨_,rfl,r⟩
theorem Vals.rep {xs:List V} {us:List Value} (h:Vals xs us):∀k:Nat,Vals (List.replicate k xs).flatten (List.replicate k us).flatten
 | 0=>.nil
 | k+1=>by
  rw[my,my,uo,uo];exact Vals.append h (Vals.rep h k)
theorem foldl_rep (bq:List Value):∀(k:Nat) (acc:List Value),
  List.foldl (fun x1 x2=>x1++x2) acc.toArray (List.replicate k bq.toArray)=(acc++(List.replicate k bq).flatten).toArray
 | 0,acc=>by simp
 | k+1,acc=>by
  have e:acc.toArray++bq.toArray=(acc++bq).toArray:=by simp
  have e2:(acc++bq)++(List.replicate k bq).flatten=acc++(List.replicate (k+1) bq).flatten:=by
   rw[my,uo,kG]
  rw[←e2,←foldl_rep bq k (acc++bq),←e,my,List.foldl_cons]
section
variable {X:Cx} {pins:List (Addr×Obj)} {σ:St} {H:Hp} {s:Shared} {l b:Addr} {xs ys zs:List V}
theorem Inv.Vo {bq nF:List Value} {n:Nat} {f:Array Value→Array Value} {t':Nat} (I:Inv X pins σ H s) (hH:H l=some (.lst xs))
  (e:s.heap.get? l=some { cls:=.type "list",data:=.seq bq.toArray n }) (hf:f bq.toArray=nF.toArray) (hv:Vals ys nF) (hz:ys.length≤sizeLine) :
  Inv X pins σ (upd H l (.lst ys)) { s with heap:=s.heap.update l (Obj.mapSeq f),toks:=t' }:=by
 have q:=PySem.IsL.update e f;rw[hf] at q;refine I.write (x:=l) (e:=l) (by rw[hH];exact trivial) (.inl rfl) (fun b' u hb hu=>(Heap.get?_update_other s.heap (Obj.mapSeq f) (j7 hb)).trans hu) ⟨_,q⟩ ?_;exact⟨hz,nF,_,hv,q⟩
theorem Inv.Vp {bq:List Value} {t':Nat} (I:Inv X pins σ H s) (hv:Vals ys bq) (hz:ys.length≤sizeLine) :
  Inv X pins σ (upd H s.heap.objs.size (.lst ys)) { s with heap:=s.heap.push { cls:=.type "list",data:=.seq bq.toArray },toks:=t' } :=
 I.laid (fun _ _ q=>Heap.get?_push_of_some _ q) (bB _) ⟨hz,bq,0,hv,Heap.get?_push_size _ rfl⟩
theorem Inv.fresh (I:Inv X pins σ H s):H s.heap.objs.size=none:=I.dr.fresh (bB _)
theorem Inv.ES (I:Inv X pins σ H s) (hH:H l=some (.lst xs)):xs.length≤sizeLine∧∃(bq:List Value) (n:Nat),Vals xs bq∧xs.length=bq.length∧s.heap.get? l=some { cls:=.type "list",data:=.seq bq.toArray n }:=by
 obtain⟨z,bq,n,r,e⟩:=I.dr l _ hH;exact⟨z,bq,n,r,r.length,e⟩
theorem ET {n:Nat} (h:n≤sizeLine):Builtin.List.listTooLong n=false:=by
 unfold Builtin.List.listTooLong;exact bS Kf
end
section
variable {X:Cx}
def PU:V→List V→Hp→VK→Prop:=fun x vs H Q=>∃l xs y,x=.ref l∧vs=[y]∧H l=some (.lst xs)∧xs.length<sizeLine∧Q .fU (upd H l (.lst (xs++[y])))
theorem Ba:YS X "list.append" PU:=by
 intro pins s σ H x vs v us Q I rx rv h;obtain⟨l,xs,y,rfl,rfl,hH,hz,q⟩:=h;cases rx;obtain⟨u,rfl,ru⟩:=rv.one;obtain⟨z,bq,n,r,hl,e⟩:=I.ES hH;refine call_meets F.slot_list_append ⟨_,e,rfl⟩ F.entry_list_append (F.args_list_append_2 _ _) (PySem.list_append l bq.toArray n u (by rw[cg];omega)) ⟨e,?_⟩;refine⟨.fU,_,I.Vo (nF:=bq++[u]) hH e (by simp) (r.append (.cons ru .nil)) ?_,rfl,q⟩;rw[cT,List.length_singleton];omega
def PV:V→List V→Hp→VK→Prop:=fun x vs H Q=>∃l b xs zs,x=.ref l∧vs=[.ref b]∧H l=some (.lst xs)∧H b=some (.lst zs)∧xs.length+zs.length≤sizeLine∧Q .fU (upd H l (.lst (xs++zs)))
theorem Ku:YS X "list.extend" PV:=by
 intro pins s σ H x vs v us Q I rx rv h;obtain⟨l,b,xs,zs,rfl,rfl,hH,hB,hz,q⟩:=h;cases rx;obtain⟨u,rfl,ru⟩:=rv.one;cases ru;obtain⟨z,bq,n,r,hl,e⟩:=I.ES hH;obtain⟨z2,rk,n2,r2,fk,e2⟩:=I.ES hB;have hsz:bq.toArray.size+rk.toArray.size≤sizeLine:=by rw[cg,cg];omega
 have Kv:¬(!bq.toArray.isEmpty&&Builtin.List.listTooLong (bq.toArray.size+rk.toArray.size))=true:=by
  rw[ET hsz,uA];exact dA
 refine call_meets F.slot_list_extend ⟨_,e,rfl⟩ F.entry_list_extend (F.args_list_extend_2 _ _)
  (AutoSeq1.list_extend_list_list_0 l bq.toArray n b rk.toArray n2 Kv (by rw[cg];omega) Kf) ⟨e,e2,?_⟩
 refine⟨.fU,_,I.Vo (nF:=bq++rk) hH e (by simp) (r.append r2) ?_,rfl,q⟩;rw[cT];omega
def YU:R2:=fun x y H Q=>∃l b xs zs,x=.ref l∧y=.ref b∧H l=some (.lst xs)∧H b=some (.lst zs)∧xs.length+zs.length≤sizeLine∧∀p,H p=none→Q (.ref p) (upd H p (.lst (xs++zs)))
theorem FU:i7 X (binaryOp .Add) YU:=by
 intro pins s σ H x y v u Q I rx ry h;obtain⟨l,b,xs,zs,rfl,rfl,hH,hB,hz,q⟩:=h;cases rx;cases ry;obtain⟨z,bq,n,r,hl,e⟩:=I.ES hH;obtain⟨z2,rk,n2,r2,fk,e2⟩:=I.ES hB;refine PySem.P.add_list e e2 ?_ (by rw[cg,cg];omega);have ea:bq.toArray++rk.toArray=(bq++rk).toArray:=by simp
 rw[ea];exact⟨.ref _,_,I.Vp (t':=s.toks) (r.append r2) (by rw[cT];omega),rfl,q _ I.fresh⟩
def YV:R2:=fun x y H Q=>∃l k xs,x=.ref l∧y=.int k∧H l=some (.lst xs)∧-(2^63)≤k∧k<2^63∧xs.length*k.toNat≤sizeLine ∧
 ∀p,H p=none→Q (.ref p) (upd H p (.lst (List.replicate k.toNat xs).flatten))
theorem len_rep {α:Type} (xs:List α) (k:Nat):(List.replicate k xs).flatten.length=k*xs.length:=by
 induction k with
 | zero=>simp
 | succ k ih=>rw[my,uo,cT,ih,Nat.succ_mul,kZ]
theorem S3:i7 X (binaryOp .Mult) YV:=by
 intro pins s σ H x y v u Q I rx ry h;obtain⟨l,k,xs,rfl,rfl,hH,h1,h2,hz,q⟩:=h;cases rx;obtain⟨t,rfl⟩:=ry;obtain⟨z,bq,n,r,hl,e⟩:=I.ES hH;have hlen:bq.toArray.size*k.toNat≤sizeLine:=by rw[cg,←hl];exact hz
 have YW:¬bq.toArray.size*k.toNat>(2^63-1)/8:=by
  have:(sizeLine:Nat)≤(2^63-1)/8:=by decide
  omega
 have Bb:¬(!Builtin.List.listFitsIndex k)=true:=by
  rw[fitsIndex_both h1 h2];exact dA
 have Kv:¬Builtin.List.listTooLong (bq.toArray.size*k.toNat)=true:=by
  rw[ET hlen];exact dA
 have YX:List.foldl (fun x1 x2=>x1++x2) #[] (List.replicate (if bq.toArray.isEmpty=true then 0 else k.toNat) bq.toArray)=(List.replicate k.toNat bq).flatten.toArray:=by
  have f0:∀m:Nat,List.foldl (fun x1 x2=>x1++x2) #[] (List.replicate m bq.toArray)=(List.replicate m bq).flatten.toArray:=fun m=>by
   have:=foldl_rep bq m [];rw[List.nil_append] at this;exact this
  rw[f0];cases bq with
  | nil=>simp
  | cons a r'=>rw[ag (by simp)]
 refine wpAny_binaryOp_repeat_ref (T:="list") (U:="int") J9 ⟨_,e,rfl⟩ (fun s'=>typeIs_int s' k t) noFill_list_mul F.fills_int_mul F.slot_int_rmul repeat_list F.slot_int_index.lookup
  (call_meets F.slot_int_rmul (typeIs_int s k t) F.entry_int_rmul (F.args_int_rmul_2 _ _) (int___rmul___int_list k t l bq.toArray n)
   ⟨e,rfl,⟨_,e,rfl⟩,call_meets F.slot_list_mul ⟨_,e,rfl⟩ F.entry_list_mul (F.args_list_mul_2 _ _) (AutoListH.list___mul___list_int_3 l bq.toArray n k t Bb YW Kv) ⟨e,?_⟩⟩)
 rw[YX];exact⟨.ref _,_,I.Vp (t':=s.toks) (r.rep k.toNat) (by rw[len_rep,eF];exact hz),rfl,q _ I.fresh⟩
end
section
variable {prog:Program} {w:World} {A:Around} {E:Value→Shared→Prop} {s:Shared}
end
section
variable {X:Cx}
end
end L2
namespace L2
open PySem PySem.Spec PyProof.Rows
theorem Vals.ints:∀{ns:List Int} {us:List Value},Vals (ns.map V.int) us→IntsAre us ns
 | [],us,h=>by
  rw[List.map_nil] at h;cases h;exact IntsAre.nil
 | n::ns,us,h=>by
  rw[fT] at h;cases h with
  | cons r t =>
   obtain⟨k,rfl⟩:=r;exact IntsAre.cons n k (Vals.ints t)
theorem Vals.YY:∀{bs:List Bool} {us:List Value},Vals (bs.map V.bl) us→us=bs.map Value.bool
 | [],us,h=>by
  rw[List.map_nil] at h;cases h;rfl
 | b::bs,us,h=>by
  rw[fT] at h;cases h with
  | cons r t =>
   cases r;rw[Vals.YY t,fT]
theorem Vals.Vq {a:Addr} {us:List Value} (r:Vals [V.ref a] us):us=[Value.ref a]:=by
 cases r with
 | cons r t =>
  cases t;cases r;rfl
section
variable {prog:Program} {w:World} {A:Around} {E:Value→Shared→Prop} {s:Shared} {l:Addr} {bq:List Value} {ns:List Int} {Q:Value→Shared→Prop}
theorem PX (hh:A.handled=none) (hl:s.heap.IsList l bq.toArray) (hi:IntsAre bq ns)
  (h:∀h' tk t',(∀b o,s.heap.get? b=some o→h'.get? b=some o)→Q (.int ns.sum t') { s with heap:=h',toks:=tk }):wpAny (model prog w) A (call (.builtin "sum") [.ref l]) Q E s:=by
 obtain⟨xs,e⟩:=hi.allInts.items;have hn:numsOf (intItems xs).toList=ns:=by rw[←e];exact hi.numsOf
 rw[nums_intItems] at hn;rw[e] at hl;refine PySem.sum_intListG hh hl fun h' tk t' hk=>?_;have:=h h' tk t' hk;rw[preSum_eq,m7 (by simp),hn];exact this
end
section
variable {X:Cx}
def YZ (K:aP):List V→Hp→VK→Prop:=fun vs H Q=>∃(a:Addr) (ns:List Int),vs=[V.ref a]∧bU K H a (ns.map V.int)∧Q (.int ns.sum) H
theorem S4 (hc:X.calm=true):pQ X (.builtin "sum") (YZ X.K):=by
 intro pins s σ H vs us Q I r h;obtain⟨a,ns,rfl,hs,q⟩:=h;obtain⟨bq,rv,hl,_⟩:=I.list hs;rw[Vals.Vq r];exact PX (I.ok.hd hc) hl.isList rv.ints fun h' tk t' hk=>⟨.int _,H,I.kept hk,⟨_,rfl⟩,q⟩
end
section
variable {X:Cx}
end
section
variable {X:Cx}
end
theorem Nv {prog:Program} {w:World} {A:Around} {E:Value→Shared→Prop} {s:Shared} {l:Addr} {items:Array Value} {Q:Value→Shared→Prop} (hl:s.heap.IsList l items)
  (h:∀s₂:Shared,s₂={ s with heap:=s.heap.push { cls:=.type "list_iterator",data:=.fields #[.ref l,.int 0 0] } } →
   (s₂.heap.IsListIter s.heap.objs.size l 0∧s₂.heap.IsList l items)→l≠s.heap.objs.size→Q (.ref s.heap.objs.size) s₂):wpAny (model prog w) A (pyIter (.ref l)) Q E s:=by
 have oS:l<s.heap.objs.size:=by obtain⟨_,e,_⟩:=hl;exact Heap.lt_size e
 exact wpAny_pyIter_list hl (h _ rfl ⟨⟨_,Heap.get?_push_size _ rfl,rfl,rfl⟩,hl.push _⟩ (dI oS))
theorem FV {prog:Program} {w:World} {A:Around} {bs:List Bool} {bq:List Value} (e:bq=bs.map Value.bool) :
  TruthOf prog w A (fun i v=>bq.toArray[i]?=some v) (fun i=>bs.getD i false):=fun i v s Q E hv hq=>by
 have SN:bq[i]?=some v:=by simpa using hv
 rw[e,aT] at SN;obtain⟨b,hb,rfl⟩:=Option.map_eq_some_iff.mp SN;have hg:bs.getD i false=b:=by rw[List.getD_eq_getElem?_getD,hb]<;>rfl
 have FR:Q (bs.getD i false) s:=hq;rw[hg] at FR;exact wpAny_truthy_bool FR
theorem all_range:∀bs:List Bool,(List.range bs.length).all (fun i=>bs.getD i false)=bs.all id
 | []=>rfl
 | b::bs=>by
  rw[cN,Fm,uC,List.all_map,uC,←all_range bs]
  all_goals rfl
section
variable {X:Cx}
def Y0 (K:aP):List V→Hp→VK→Prop:=fun vs H Q=>∃(a:Addr) (bs:List Bool),vs=[V.ref a]∧bU K H a (bs.map V.bl)∧Q (.bl (bs.all id)) H
theorem S5 (hc:X.calm=true):pQ X (.builtin "all") (Y0 X.K):=by
 intro pins s σ H vs us Q I r h;obtain⟨a,bs,rfl,hs,q⟩:=h;obtain⟨bq,rv,hl,_⟩:=I.list hs;rw[Vals.Vq r];have hb:=rv.YY;refine call_all_walk (Nv hl.isList fun s₂ e2 st iW=>?_);subst e2;refine⟨_,_,_,_,_,_,_,rfl,Walks.list (A:=X.A.in1) (I.ok.hd hc) _ a iW bq.toArray,st,FV hb,fun h' tk hk=>?_⟩;refine⟨.bl _,H,I.kept fun b o eo=>hk b o (fun PY=>?_) (Heap.get?_push_of_some _ eo),?_,q⟩
 ·rcases cO.mp PY with e1 | PY
  ·exact absurd (e1 ▸ Heap.lt_size eo) (i6 _)
  ·cases PY
 ·show Value.bool _=Value.bool _;rw[←all_range,hb,cg,aF]
end
mutual
inductive Dp (K:aP) (H:Hp):V→PyData→Prop
 | fU:Dp K H .fU .none
 | bl (b:Bool):Dp K H (.bl b) (.bool b)
 | int (i:Int):Dp K H (.int i) (.int i)
 | str (x:Str):Dp K H (.str x) (.str x)
 | lst {a:Addr} {xs:List V} {ds:List PyData}:bU K H a xs→uI K H xs ds→Dp K H (.ref a) (.list ds)
 | tup {a:Addr} {xs:List V} {ds:List PyData}:j3 K H a xs→uI K H xs ds→Dp K H (.ref a) (.tuple ds)
inductive uI (K:aP) (H:Hp):List V→List PyData→Prop
 | nil:uI K H [] []
 | cons {v:V} {vs:List V} {d:PyData} {ds:List PyData}:Dp K H v d→uI K H vs ds→uI K H (v::vs) (d::ds)
end
section
variable {X:Cx} {pins:List (Addr×Obj)} {σ:St} {H:Hp} {s:Shared}
mutual
theorem Dp.reads (I:Inv X pins σ H s):∀(d:PyData) (v:V) (u:Value),Dp X.K H v d→RelV v u→∃as,Reads s.heap u d as
 | .none,_,_,h,r=>by
  cases h;cases r;exact⟨_,Reads.none⟩
 | .bool b,_,_,h,r=>by
  cases h;cases r;exact⟨_,Reads.bool b⟩
 | .int i,_,_,h,r=>by
  cases h;obtain⟨t,rfl⟩:=r;exact⟨_,Reads.int i t⟩
 | .str x,_,_,h,r=>by
  cases h;obtain⟨t,rfl⟩:=r;exact⟨_,Reads.str x t⟩
 | .list ds,_,_,h,r=>by
  cases h with
  | lst hs ha =>
   cases r;obtain⟨bq,rv,⟨o,n,ho,hc,_,hd⟩,_⟩:=I.list hs;obtain⟨as,hr⟩:=Dp.readsAll I ds _ bq ha rv;exact⟨_,Reads.list ho hc hd hr⟩
 | .tuple ds,_,_,h,r=>by
  cases h with
  | tup hs ha =>
   cases r;obtain⟨bq,rv,⟨o,ho,hc,n,hd⟩,_⟩:=I.tuple hs;obtain⟨as,hr⟩:=Dp.readsAll I ds _ bq ha rv;exact⟨_,Reads.tuple ho hc hd hr⟩
 | .dict _,_,_,h,_=>by cases h
theorem Dp.readsAll (I:Inv X pins σ H s):∀(ds:List PyData) (vs:List V) (us:List Value),uI X.K H vs ds→Vals vs us→∃as,ReadsAll s.heap us ds as
 | [],_,_,h,r=>by
  cases h;cases r;exact⟨_,ReadsAll.nil⟩
 | d::ds,_,_,h,r=>by
  cases h with
  | cons h1 h2 =>
   cases r with
   | cons r1 r2 =>
    obtain⟨as,q1⟩:=Dp.reads I d _ _ h1 r1;obtain⟨bs,q2⟩:=Dp.readsAll I ds _ _ h2 r2;exact⟨_,ReadsAll.cons q1 q2⟩
end
end
section
variable {X:Cx}
def Y1 (K:aP):R2:=fun x y H Q=>∃d e,Dp K H x d∧Dp K H y e∧SeqAt.shaped d=true∧SeqAt.shaped e=true∧Q (.bl (PyData.eqv d e)) H
theorem S6 (hu:X.A.units+64<cLine):i7 X (compareOp .Eq) (Y1 X.K):=by
 intro pins s σ H x y v u Q I rx ry h;obtain⟨d,e,hd,he,sd,se,q⟩:=h;obtain⟨as,r1⟩:=Dp.reads I d x v hd rx;obtain⟨bs,r2⟩:=Dp.reads I e y u he ry;exact SeqAt.compareEq_shaped r1 r2 sd se hu ⟨.bl _,H,I,rfl,q⟩
end
end L2
namespace L2
open PySem PySem.Spec PyProof.Rows
abbrev Mo (h:Heap) (c:Addr) (v:Option Value):Prop:=h.IsCell c v
def Y2 (scope sc:Scope):Scope :=
 { scope with names:=scope.names.map fun (n,k)=>if (k==.free&&sc.kind==.function&&sc.names.lookup n==some .cell) then (n,.cell) else (n,k) }
def eY (cells:List (Str×Addr)):List (Str×NameKind)→List (Str×Addr)→List (Str×Addr)
 | [],acc=>acc
 | (n,k)::r,acc=>if k==.free then eY cells r ((n,(cells.lookup n).getD 0)::acc) else eY cells r acc
theorem uh (env:Env) (f:Str×NameKind→List (Str×Addr)→Sem (ForInStep (List (Str×Addr))))
  (hf:∀n k c,f (n,k) c=if k==.free then (do let a ←cellOf env n;pure (.yield ((n,a)::c))) else pure (.yield c)) :
  ∀(names:List (Str×NameKind)) (acc:List (Str×Addr)),(∀y∈names,y.2=.free→∃c,env.cells.lookup y.1=some c)→forIn names acc f=pure (eY env.cells names acc)
 | [],acc,_=>by rw[List.forIn_nil];rfl
 | (n,k)::r,acc,h=>by
  rw[List.forIn_cons,hf];have ih:=fun acc=>uh env f hf r acc fun y hy=>h y (dv _ hy);unfold eY;by_cases hk:(k==NameKind.free)=true
  ·rw[ao hk,ao hk];obtain⟨c,hc⟩:=h (n,k) fA (by simpa using hk);have e:cellOf env n=pure c:=by unfold cellOf;rw[hc]
   rw[e];have e2:(env.cells.lookup n).getD 0=c:=by rw[hc];rfl
   rw[e2];exact ih _
  ·rw[ag hk,ag hk];exact ih _
theorem HS {scope:Scope} {env:Env} (h:∀y∈scope.names,y.2=.free→∃c,env.cells.lookup y.1=some c):closureFor scope env=pure (eY env.cells scope.names []):=by
 simp only[closureFor];rw[uh env _ (fun n k c=>rfl) scope.names [] h];rfl
theorem mem_lookup {α:Type}:∀{l:List (Str×α)} {n:Str} {c:α},(n,c)∈l→∃c',l.lookup n=some c'
 | (k,v)::r,n,c,h=>by
  rw[nj];cases hb:n==k with
  | true=>exact⟨_,rfl⟩
  | false =>
   rcases cO.mp h with e | h
   ·cases e;simp at hb
   ·exact mem_lookup h
theorem lO {cells:List (Str×Addr)}:∀{names:List (Str×NameKind)} {acc:List (Str×Addr)} {n:Str} {c:Addr},(n,c)∈eY cells names acc→(n,c)∈acc∨((n,.free)∈names∧c=(cells.lookup n).getD 0)
 | [],_,_,_,h=>.inl h
 | (m,k)::r,acc,n,c,h=>by
  unfold eY at h;split at h
  ·rename_i hk;have hk:k=.free:=by simpa using hk
   rcases lO h with h | ⟨h1,h2⟩
   ·rcases cO.mp h with e | h
    ·cases e;exact .inr ⟨hk ▸ fA,rfl⟩
    ·exact .inl h
   ·exact .inr ⟨dv _ h1,h2⟩
  ·rcases lO h with h | ⟨h1,h2⟩
   ·exact .inl h
   ·exact .inr ⟨dv _ h1,h2⟩
theorem pV {cells:List (Str×Addr)}:∀{names:List (Str×NameKind)} {acc:List (Str×Addr)} {p:Str×Addr},p∈acc→p∈eY cells names acc
 | [],_,_,h=>h
 | (m,k)::r,acc,p,h=>by
  unfold eY;split
  ·exact pV (dv _ h)
  ·exact pV h
theorem pW {cells:List (Str×Addr)}:∀{names:List (Str×NameKind)} {acc:List (Str×Addr)} {n:Str},(n,.free)∈names→(n,(cells.lookup n).getD 0)∈eY cells names acc
 | (m,k)::r,acc,n,h=>by
  unfold eY;rcases cO.mp h with e | h
  ·cases e;exact pV fA
  ·split
   ·exact pW h
   ·exact pW h
theorem mx:∀{names:List (Str×NameKind)} {h:Heap} {acc:List (Str×Addr)} {x:Str} {c:Addr},(x,c)∈cellsFrom h.objs.size names acc →
  (x,c)∈acc∨((x,.cell)∈names∧h.objs.size≤c∧Mo (pushCells h names) c none)
 | [],_,_,_,_,h=>.inl h
 | (n,k)::r,h,acc,x,c,hm=>by
  unfold cellsFrom at hm;unfold pushCells;split at hm
  ·rename_i hk;rw[ao hk];have hk:k=.cell:=by simpa using hk
   rw[←Heap.size_push h { cls:=.type "cell",data:=.cell none }] at hm;rcases mx hm with hm | ⟨h1,h2,h3⟩
   ·rcases cO.mp hm with e | hm
    ·cases e;exact .inr ⟨hk ▸ fA,bB _,_,pushCells_keeps r _ _ _ (Heap.get?_push_size _ rfl),rfl⟩
    ·exact .inl hm
   ·rw[Heap.size_push] at h2;exact .inr ⟨dv _ h1,zq h2,h3⟩
  ·rename_i hk;rw[ag hk];rcases mx hm with hm | ⟨h1,h2,h3⟩
   ·exact .inl hm
   ·exact .inr ⟨dv _ h1,h2,h3⟩
theorem pX:∀{names:List (Str×NameKind)} {n:Nat} {acc:List (Str×Addr)} {p:Str×Addr},p∈acc→p∈cellsFrom n names acc
 | [],_,_,_,h=>h
 | (m,k)::r,n,acc,p,h=>by
  unfold cellsFrom;split
  ·exact pX (dv _ h)
  ·exact pX h
theorem uJ:∀{names:List (Str×NameKind)} {n:Nat} {acc:List (Str×Addr)} {x:Str},(x,.cell)∈names→∃c,(x,c)∈cellsFrom n names acc
 | (m,k)::r,n,acc,x,h=>by
  unfold cellsFrom;rcases cO.mp h with e | h
  ·cases e;exact⟨n,pX fA⟩
  ·split
   ·exact uJ h
   ·exact uJ h
theorem uK:∀{names:List (Str×NameKind)} {h:Heap} {acc:List (Str×Addr)} {x y:Str} {c:Addr},(∀p∈acc,p.2<h.objs.size)→(∀x y c,(x,c)∈acc→(y,c)∈acc→x=y) →
  (x,c)∈cellsFrom h.objs.size names acc→(y,c)∈cellsFrom h.objs.size names acc→x=y
 | [],_,_,_,_,_,_,hi,h1,h2=>hi _ _ _ h1 h2
 | (n,k)::r,h,acc,x,y,c,hl,hi,h1,h2=>by
  unfold cellsFrom at h1 h2;split at h1
  ·rename_i hk;rw[ao hk] at h2;rw[←Heap.size_push h { cls:=.type "cell",data:=.cell none }] at h1 h2;refine uK (h:=h.push _) (fun p hp=>?_) (fun x y c a b=>?_) h1 h2
   ·rw[Heap.size_push];rcases cO.mp hp with rfl | hp
    ·exact EK _
    ·exact Fv (hl p hp)
   ·rcases cO.mp a with e | a<;>rcases cO.mp b with e' | b
    ·cases e;cases e';rfl
    ·cases e;exact absurd (hl _ b) (i6 _)
    ·cases e';exact absurd (hl _ a) (i6 _)
    ·exact hi _ _ _ a b
  ·rename_i hk;rw[ag hk] at h2;exact uK hl hi h1 h2
theorem FW {M:Model} {A:Around} {E:Value→Shared→Prop} {s:Shared} {scope:Scope} {globals:Addr} {closure:List (Str×Addr)} {qual:Str} {func:Option Addr} {code:Value} {around:Env} {builtins:Addr} {Q:Env→Shared→Prop}
  (h:Q (newEnv scope s.heap.objs.size globals (cellsFrom (s.heap.objs.size+1) scope.names closure) qual func code (some around) builtins)
   { s with heap:=pushCells (s.heap.push { cls:=.type "dict",data:=.dict #[] }) scope.names }) :
  wpAny M A (newFunctionEnv scope globals closure [] qual func code (some around) builtins) Q E s:=by
 simp only[newFunctionEnv,Option.isSome_some,aJ];refine wpAny_bind (wpAny_alloc ?_);refine wpAny_bind (wpAny_layCells _ (fun n k c=>rfl) scope.names closure _ _ ?_);rw[show ({ s with heap:=s.heap.push { cls:=.type "dict",data:=.dict #[] } }:Shared).heap.objs.size=s.heap.objs.size+1 from Heap.size_push ..];rw[List.forIn_nil];exact wpAny_bind (wpAny_pure (wpAny_pure h))
theorem pY {sc:Scope}:∀{names:List (Str×NameKind)} {x:Str} {k:NameKind},
  (names.map fun (n,k)=>if (k==NameKind.free&&sc.kind==.function&&sc.names.lookup n==some .cell) then (n,NameKind.cell) else (n,k)).lookup x=some k →
  ∃k',names.lookup x=some k'∧(k=k'∨(k'=.free∧k=.cell))
 | [],_,_,h=>by simp at h
 | (n,k₀)::r,x,k,h=>by
  have ih:=@pY sc r x k;have h':List.lookup x ((if (k₀==NameKind.free&&sc.kind==.function&&sc.names.lookup n==some .cell)=true then (n,NameKind.cell) else (n,k₀))::(r.map _))=some k:=h;cases hx:x==n with
  | true =>
   simp only[nj,hx];by_cases hc:(k₀==NameKind.free&&sc.kind==.function&&sc.names.lookup n==some .cell)=true
   ·rw[ao hc] at h';simp only[nj,hx] at h';cases h';simp only[cI,dE] at hc;exact⟨k₀,rfl,.inr ⟨hc.1.1,rfl⟩⟩
   ·rw[ag hc] at h';simp only[nj,hx] at h';cases h';exact⟨_,rfl,.inl rfl⟩
  | false =>
   simp only[nj,hx];by_cases hc:(k₀==NameKind.free&&sc.kind==.function&&sc.names.lookup n==some .cell)=true
   ·rw[ao hc] at h';simp only[nj,hx] at h';exact ih h'
   ·rw[ag hc] at h';simp only[nj,hx] at h';exact ih h'
structure Bd (N:List Str) (sc scope:Scope) (own:List (Str×Nat)):Prop where
 kind:scope.kind=.function
 uniq:∀y∈scope.names,scope.names.lookup y.1=some y.2
 ix:∀p∈own,N[p.2]?=some p.1
 free:∀y∈scope.names,y.2=.free→sc.names.lookup y.1=some .cell∨sc.names.lookup y.1=some .free
 own:∀y∈scope.names,y.2=.local∨y.2=.cell→y.1∈own.map (·.1)∨y.1∉N
def wipe (σ:St):List Nat→St
 | []=>σ
 | v::vs=>(wipe σ vs).set v none
theorem pZ (σ:St):∀vs:List Nat,(wipe σ vs).length=σ.length
 | []=>rfl
 | v::vs=>by unfold wipe;rw[Fb,pZ σ vs]
theorem uL {σ:St} {i:Nat} {x:V}:∀{vs:List Nat},(wipe σ vs)[i]?=some (some x)→σ[i]?=some (some x)∧i∉vs
 | [],h=>⟨h,by simp⟩
 | v::vs,h=>by
  unfold wipe at h;by_cases hi:v=i
  ·subst hi;by_cases hv:v<(wipe σ vs).length
   ·rw[El hv] at h;cases h
   ·rw[eO (by simpa using hv)] at h;cases h
  ·rw[En hi] at h;obtain⟨h1,h2⟩:=uL h;exact⟨h1,by simp only[cO,not_or];exact⟨fun e=>hi e.symm,h2⟩⟩
abbrev Cx.qa (X:Cx) (s:Shared) (H:Hp) (scope:Scope) (gH:Env) (fp:List Addr):Cx:={ X with oJ:=s,Pf:=H,env:=gH,outer:=X.stack,ex:=fp,fn:=fun x=>scope.names.lookup x==some .cell,pn:=[],xe:=fun _ _=>False }
section
variable {X:Cx} {pins:List (Addr×Obj)} {σ:St} {H:Hp} {s:Shared}
theorem FX {scope:Scope} {own:List (Str×Nat)} {fp:List Addr} (I:Inv X pins σ H s) (ok:Bd X.N X.env.scope scope own) (hN:X.N.Nodup) (Nw:∀b∈fp,qC X pins H b∧b<s.heap.objs.size) :
  Inv (X.qa s H scope (compEnvC scope (cellsFrom (s.heap.objs.size+1) scope.names (eY X.env.cells scope.names [])) s.heap.objs.size X.env) fp) [] (wipe σ (own.map (·.2))) H { s with heap:=pushCells (s.heap.push { cls:=.type "dict",data:=.dict #[] }) scope.names }:=by
 have xJ:∀y∈scope.names,y.2=.free→∃c,X.env.cells.lookup y.1=some c:=fun y hy e=>by
  rcases ok.free y hy e with k | k
  ·exact I.ok.has _ (.inl k)
  ·exact I.ok.has _ (.inr k)
 generalize Be:compEnvC scope (cellsFrom (s.heap.objs.size+1) scope.names (eY X.env.cells scope.names [])) s.heap.objs.size X.env=gH;have kp:∀b o,s.heap.get? b=some o→(pushCells (s.heap.push { cls:=.type "dict",data:=.dict #[] }) scope.names).get? b=some o:=fun b o e=>pushCells_keeps _ _ _ _ (Heap.get?_push_of_some _ e);have hL:gH.locals=s.heap.objs.size:=by rw[←Be];rfl
 have Kw:gH.cells=cellsFrom (s.heap.objs.size+1) scope.names (eY X.env.cells scope.names []):=by rw[←Be];rfl
 have Wm:gH.scope=Y2 scope X.env.scope:=by rw[←Be];rfl
 rw[←Heap.size_push s.heap { cls:=.type "dict",data:=.dict #[] }] at Kw;have cm:∀{y c},(y,c)∈eY X.env.cells scope.names []→X.env.cells.lookup y=some c∧c<s.heap.objs.size:=fun {y c} hm=>by
  rcases lO hm with hm | ⟨h1,rfl⟩
  ·cases hm
  ·obtain⟨c,hc⟩:=xJ _ h1 rfl;rw[hc];obtain⟨w,z⟩:=I.cell _ _ hc;exact⟨rfl,z.lt⟩
 have mem:∀{y c},gH.cells.lookup y=some c→(X.env.cells.lookup y=some c∧c<s.heap.objs.size)∨(s.heap.objs.size+1≤c∧Mo (pushCells (s.heap.push { cls:=.type "dict",data:=.dict #[] }) scope.names) c none):=fun {y c} e=>by
  rw[Kw] at e;rcases mx (PySem.mem_of_lookup e) with hm | ⟨_,h2,h3⟩
  ·exact .inl (cm hm)
  ·rw[Heap.size_push] at h2;exact .inr ⟨h2,h3⟩
 have look:∀{y},scope.names.lookup y=some .free→∃c,gH.cells.lookup y=some c∧X.env.cells.lookup y=some c:=fun {y} hl=>by
  have hy:(y,NameKind.free)∈scope.names:=PySem.mem_of_lookup hl;obtain⟨c',e'⟩:=mem_lookup (pX (names:=scope.names) (n:=(s.heap.push { cls:=.type "dict",data:=.dict #[] }).objs.size) (pW (cells:=X.env.cells) (acc:=[]) hy));rw[←Kw] at e';refine⟨c',e',?_⟩;rw[Kw] at e';rcases mx (PySem.mem_of_lookup e') with hm | ⟨h1,_,_⟩
  ·exact(cm hm).1
  ·have:=ok.uniq _ h1;rw[hl] at this;cases this
 have Wo:(X.qa s H scope gH fp).Ok:=by
  refine⟨I.ok.mod,by show gH.scope.kind=_;rw[Wm];exact ok.kind,by show gH.globals=_;rw[←Be];exact I.ok.glob,by show gH.builtins=_;rw[←Be];exact I.ok.blt,by show s.heap.objs.size≤gH.locals;rw[hL];exact bB _,
   fun y z c e1 e2=>?_,fun y hy=>?_,fun y c z e=>?_,I.ok.hd,I.ok.frames,.inl rfl,fun b hb=>⟨?_,fun y c e z=>?_⟩,I.bs,bZ I.ok.zp I.sz,fun b o e hb=>?_,fun b hb z=>?_,I.stack,I.AM⟩
  ·have e1:gH.cells.lookup y=some c:=e1;have e2:gH.cells.lookup z=some c:=e2;rw[Kw] at e1 e2;refine uK (fun p hp=>?_) (fun y z c a b=>I.ok.inj y z c (cm a).1 (cm b).1) (PySem.mem_of_lookup e1) (PySem.mem_of_lookup e2);rw[Heap.size_push];exact Fv (cm (y:=p.1) (c:=p.2) hp).2
  ·show ∃c,gH.cells.lookup y=some c;have key:∀k,gH.kindOf y=some k→(k=.cell∨k=.free)→∃c,gH.cells.lookup y=some c:=fun k hk PZ=>by
    unfold Env.kindOf at hk;rw[Wm] at hk;obtain⟨k',e,r⟩:=pY hk;have:k'=.cell∨k'=.free:=by
     rcases r with rfl | ⟨rfl,_⟩
     ·exact PZ
     ·exact .inr rfl
    rcases this with rfl | rfl
    ·obtain⟨c,hm⟩:=uJ (n:=(s.heap.push { cls:=.type "dict",data:=.dict #[] }).objs.size) (acc:=eY X.env.cells scope.names []) (PySem.mem_of_lookup e);obtain⟨c',e'⟩:=mem_lookup hm;exact⟨c',by rw[Kw];exact e'⟩
    ·obtain⟨c,h1,_⟩:=look e;exact⟨c,h1⟩
   rcases hy with hy | hy
   ·exact key _ hy (.inl rfl)
   ·exact key _ hy (.inr rfl)
  ·have z:(scope.names.lookup y==some NameKind.cell)=true:=z;have z:scope.names.lookup y=some .cell:=by simpa using z
   have e:gH.cells.lookup y=some c:=e;rw[Kw] at e;rcases mx (PySem.mem_of_lookup e) with hm | ⟨_,h2,_⟩
   ·rcases lO hm with hm | ⟨h1,_⟩
    ·cases hm
    ·have q:=ok.uniq _ h1;rw[z] at q;cases q
   ·rw[Heap.size_push] at h2;exact zq h2
  ·show b≠gH.locals;rw[hL];exact dI (Nw b hb).2
  ·have e:gH.cells.lookup y=some c:=e;rcases mem e with ⟨h1,_⟩ | ⟨h1,_⟩
   ·exact(Nw b hb).1.2.2.2.2.1 y c h1 z
   ·have h2:s.heap.objs.size+1≤b:=by rw[←z];exact h1
    exact absurd (b5 (Nw b hb).2 (zq h2)) (i6 _)
  ·rcases (Nw b hb).1.2.2.2.1 with z | z
   ·exact I.ok.yC b o e z
   ·exact absurd (b5 (Heap.lt_size e) (bZ I.ok.zp z)) (i6 _)
  ·rcases cO.mp (I.Ag b z) with z | z
   ·exact(Nw b hb).1.2.1 z
   ·exact(Nw b hb).1.2.2.1 z
 refine⟨Wo,rfl,I.bare,Un.kept kp,⟨fun _=>none,?_,fun i y av e1 e2 e3=>?_⟩,fun y c e=>?_,?_,fun y c e=>?_,fun p hp=>?_,I.dr.kept kp,by rw[pZ];exact I.len⟩
 ·show Heap.Ns _ gH.locals _;rw[hL];exact Heap.Ns.keeps (Heap.Ns.new ..) fun b o e=>pushCells_keeps _ _ _ _ e
 ·obtain⟨e2,iW⟩:=uL e2;have S7:scope.names.lookup y=some .free∧(gH.kindOf y=some .cell∨gH.kindOf y=some .free):=by
   have key:∀k,gH.scope.names.lookup y=some k→k=.local∨k=.cell∨k=.free→scope.names.lookup y=some .free∧(gH.kindOf y=some .cell∨gH.kindOf y=some .free):=fun k hk PZ=>by
    have P0:=hk;rw[Wm] at hk;obtain⟨k',e,r⟩:=pY hk;have no:¬(k'=.local∨k'=.cell):=fun hh=>by
     rcases ok.own _ (PySem.mem_of_lookup e) hh with e' | e'
     ·obtain⟨p,hp,hpy⟩:=ju.mp e';have e3:=ok.ix p hp;have:p.1=y:=hpy;rw[this] at e3;exact iW (ju.mpr ⟨p,hp,xI hN e3 e1⟩)
     ·exact e' (uk e1)
    rcases r with rfl | ⟨rfl,rfl⟩
    ·rcases PZ with rfl | rfl | rfl
     ·exact absurd (.inl rfl) no
     ·exact absurd (.inr rfl) no
     ·exact⟨e,.inr P0⟩
    ·exact⟨e,.inl P0⟩
   have e3:Pg gH.scope y:=e3;rcases e3 with e3 | e3 | e3
   ·exact key _ e3 (.inl rfl)
   ·exact key _ e3 (.inr (.inl rfl))
   ·exact key _ e3 (.inr (.inr rfl))
  obtain⟨m,hn,hl⟩:=I.loc;have Y3:Pg X.env.scope y:=(ok.free _ (PySem.mem_of_lookup S7.1) rfl).elim (fun k=>.inr (.inl k)) (fun k=>.inr (.inr k));obtain⟨w,r,q⟩:=hl i y av e1 e2 Y3;refine⟨w,r,.inr ⟨S7.2,?_⟩⟩;obtain⟨c,h1,h2⟩:=look S7.1;rcases q with ⟨k,_⟩ | ⟨_,c',e',z⟩
  ·have k:X.env.scope.names.lookup y=some .local:=k;rcases ok.free _ (PySem.mem_of_lookup S7.1) rfl with k' | k'<;>rw[show X.env.scope.names.lookup y=_ from k'] at k<;>cases k
  ·rw[h2] at e';cases e';exact⟨c,h1,z.keeps kp⟩
 ·have e:gH.cells.lookup y=some c:=e;rcases mem e with ⟨h1,_⟩ | ⟨_,z⟩
  ·obtain⟨w,z⟩:=I.cell y c h1;exact⟨w,z.keeps kp⟩
  ·exact⟨_,z⟩
 ·show H gH.locals=none;rw[hL];exact I.dr.fresh (bB _)
 ·have e:gH.cells.lookup y=some c:=e;rcases mem e with ⟨h1,_⟩ | ⟨h1,_⟩
  ·exact I.j8 y c h1
  ·exact I.dr.fresh (zq h1)
 ·exact absurd (show p∈([]:List (Addr×Obj))++[] from hp) (by simp)
theorem S8 {E:Value→Shared→Prop} {D:Addr} {xs:List V} {y:V} {v:Value} {Q:Value→Shared→Prop} (I:Inv X pins σ H s) (hD:H D=some (.lst xs)) (hz:xs.length<sizeLine) (r:RelV y v)
  (h:∀s',Inv X pins σ (upd H D (.lst (xs++[y]))) s'→Q .none s'):wpAny (model X.prog X.w) X.A (call (.builtin "list.append") [.ref D,v]) Q E s:=by
 obtain⟨hz',bq,n,ri,e⟩:=I.dr D _ hD;have hl:=ri.length;refine append_at (hsz:=by rw[cg];omega) e fun h' sb xH=>?_;refine h { s with heap:=h' } (I.write (t':=s.toks) (by rw[hD];trivial) (.inl rfl) (fun b u hb q=>(sb.2 b hb).trans q) ⟨_,xH⟩ ⟨by rw[cT];exact hz,bq++[v],n+1,ri.append (.cons r .nil),?_⟩);rw[xH];simp
def S9 (X:Cx) (ifs:List Expr) (t:TT):Prop :=
 ∀(pins:List (Addr×Obj)) (s:Shared) (σ:St) (H:Hp) (Q:Bool→Hp→Prop),Inv X pins σ H s→t σ H Q →
  wpAny (model X.prog X.w) X.A (forIn ifs true fun c r=>if r=true then do let ok ←isTrue c X.env (eval c X.env);pure (ForInStep.yield ok) else pure (ForInStep.yield r)) (TP X pins σ Q) X.xe s
def Vr:TT:=fun _ H Q=>Q true H
theorem kf:S9 X [] Vr:=fun _ _ _ H _ I h=>wpAny_tests_nil ⟨H,I,h⟩
end
theorem EU {α:Type} {t:Sem α} {Q Q':α→Shared→Prop} {M:Model} {A:Around} {E:Value→Shared→Prop} {s:Shared} (h:wpAny M A t Q (fun _ _=>False) s) (hQ:∀a s,Q a s→Q' a s):wpAny M A t Q' E s:=wpAny_mono h hQ fun _ _ z=>False.elim z
theorem DP {prog:Program} {w:World} {A:Around} {R:Result→Shared→Prop} {s:Shared} {elt target iter:Expr} {ifs:List Expr} {scope:Scope} {pos:Pos} {it acc:Value} {env:Env} (I:Nat→Shared→Prop)
  (turn:∀n s,I n s→wpAny (model prog w) A (pyNext it) (fun r s₁=>match r with
   | none=>R (.ok .next) s₁
   | some v=>wpAny (model prog w) A (letOwnedTupleGo target it v) (fun _ s₁'=>wpAny (model prog w) A (assign target env v) (fun _ s₂ =>
    wpAny (model prog w) A (forIn ifs true fun c r=>if r=true then do let ok ←isTrue c env (eval c env);pure (ForInStep.yield ok) else pure (ForInStep.yield r)) (fun ok s₃ =>
     if ok=true then wpAny (model prog w) A (eval elt env) (fun x s₄ =>
      wpAny (model prog w) A (call (.builtin "list.append") [acc,x]) (fun _ s₅=>∃m,m<n∧I m s₅) (notedBy (model prog w) A env fun e s'=>R (.error e) s') s₄) (notedBy (model prog w) A env fun e s'=>R (.error e) s') s₃
     else ∃m,m<n∧I m s₃) (notedBy (model prog w) A env fun e s'=>R (.error e) s') s₂) (notedBy (model prog w) A env fun e s'=>R (.error e) s') s₁') (notedBy (model prog w) A env fun e s'=>R (.error e) s') s₁) (notedBy (model prog w) A env fun e s'=>R (.error e) s') s)
  (n:Nat) (h:I n s) :
  codeAny (model prog w) A (.compLoop (.ListComp elt [⟨target,iter,ifs,0⟩] scope pos) 0 it acc env) R s:=by
 refine codeAny_loop rfl I (fun n s hI=>?_) n h;show wpAny _ A ((compTurn (.ListComp elt [⟨target,iter,ifs,0⟩] scope pos) 0 it acc env).onRaise (fun x=>do noteFrame x env;theTreesLotGoes x)) _ _ s;refine wpAny_noted ?_;rw[compTurn_list];refine wpAny_bind (wpAny_standAt (wpAny_bind (wpAny_mono (turn n s hI) (fun r s₁ h₁=>?_) fun _ _ h'=>h')));cases r with
 | none=>exact wpAny_pure h₁
 | some v =>
  refine wpAny_bind (wpAny_mono h₁ (fun _ s₁' h₁'=>?_) fun _ _ h'=>h');refine wpAny_bind (wpAny_mono h₁' (fun _ s₂ h₂=>wpAny_bind (wpAny_mono h₂ (fun ok s₃ h₃=>?_) fun _ _ h'=>h')) fun _ _ h'=>h');cases ok with
  | false=>exact wpAny_pure ⟨rfl,h₃⟩
  | true =>
   exact wpAny_bind (wpAny_bind (wpAny_mono h₃ (fun x s₄ h₄=>wpAny_bind (wpAny_mono h₄ (fun _ s₅ h₅=>wpAny_pure (wpAny_pure ⟨rfl,h₅⟩)) fun _ _ h'=>h')) fun _ _ h'=>h'))
section
variable {X:Cx}
def Ta (wi:TI) (g:TG) (tt:TT) (te:TE) (vs:List Nat):TE:=fun σ H Q=>wi σ H fun J H1=>∀D,H1 D=none→∃W:Nat→Nat→Hp→Prop,(∃m,W 0 m (upd H1 D (.lst [])))∧∀i m H,W i m H →
 (J.stop i H∧Q (.ref D) H)∨(J.go i H∧∃Nx:Hp→Prop,(∀H',Nx H'→∃m',m'<m∧W (i+1) m' H')∧∀x H',J.Ki i H x H'→g x (wipe σ vs) H' fun σ2 H2=>wipe σ2 vs=wipe σ vs∧tt σ2 H2 fun b H3 =>
  if b=true then te σ2 H3 fun y H4=>∃acc,H4 D=some (.lst acc)∧acc.length<sizeLine∧Nx (upd H4 D (.lst (acc++[y]))) else Nx H3)
theorem HU {pins:List (Addr×Obj)} {s:Shared} {σ:St} {H:Hp} {Q:VK} {elt tg iter:Expr} {ifs:List Expr} {scope:Scope} {own:List (Str×Nat)} {pos pos':Pos} {wi:TI} {g:TG} {tt:TT} {te:TE} {use:Option (Value→Sem Unit)} {Qf:Value→Shared→Prop}
  (hc:X.calm=true) (hN:X.N.Nodup) (I:Inv X pins σ H s) (hi:PI X tg iter wi) (ok:Bd X.N X.env.scope scope own)
  (hg:∀(s:Shared) (H:Hp) (C:Addr) (cl:List (Str×Addr)) (fp:List Addr),PG (X.qa s H scope (compEnvC scope cl C X.env) fp) tg g) (ht:∀(s:Shared) (H:Hp) (C:Addr) (cl:List (Str×Addr)) (fp:List Addr),S9 (X.qa s H scope (compEnvC scope cl C X.env) fp) ifs tt)
  (he:∀(s:Shared) (H:Hp) (C:Addr) (cl:List (Str×Addr)) (fp:List Addr),PE (X.qa s H scope (compEnvC scope cl C X.env) fp) elt te) (hs:∀x,foldedSetIterable iter X.env x=pure x)
  (h:Ta wi g tt te (own.map (·.2)) σ H Q)
  (hRR:∀D C s' m H',Inv X pins σ H' s'→Q (.ref D) H'→s'.heap.Ns C m→qC X pins H' C→compPost (model X.prog X.w) X.A X.xe use Qf (.ref D) C (.ok .next) s') :
  wpAny (model X.prog X.w) X.A (comprehension (.ListComp elt [⟨tg,iter,ifs,0⟩] scope pos) scope X.env pos' (newList []) false (eval iter X.env) use) Qf X.xe s:=by
 have xJ:∀y∈scope.names,y.2=.free→∃c,X.env.cells.lookup y.1=some c:=fun y hy e=>by
  rcases ok.free y hy e with k | k
  ·exact I.ok.has _ (.inl k)
  ·exact I.ok.has _ (.inr k)
 refine wpAny_comprehension_free (use:=use) rfl hs (HS xJ) ok.kind (fun y hy e=>by rw[ok.uniq y hy,e])
  (dz (hi pins s σ H _ I h) fun xv s1 hx=>dz hx fun V5 s2 h2=>?_)
 obtain⟨it,fp,tn,J,H2,e,I2,T,oP,f2,q⟩:=h2;subst e;refine wpAny_newObj_type (FW ?_) (by show 0≤sizeLine;decide);generalize hD:s2.heap.objs.size=D;have hDn:H2 D=none:=I2.dr.fresh (zm hD);obtain⟨W,⟨m0,w0⟩,turn⟩:=q D hDn;generalize Y4:({ s2 with heap:=s2.heap.push { cls:=.type "list",data:=.seq ([]:List Value).toArray } }:Shared)=s3;have I3:Inv X pins σ (upd H2 D (.lst [])) s3:=by
  rw[←Y4];refine I2.laid (t':=s2.toks) (fun b o e=>Heap.get?_push_of_some _ e) (zm hD) ⟨iA _,[],0,.nil,?_⟩;rw[←hD];exact Heap.get?_push_size _ rfl
 have h3:s3.heap=s2.heap.push { cls:=.type "list",data:=.seq ([]:List Value).toArray }:=by rw[←Y4]
 have sz:∀b∈fp,b<s2.heap.objs.size:=fun b hb=>by
  obtain⟨o,e,_⟩:=T.obj _ _ oP b hb;exact Heap.lt_size e
 have f3:∀b∈fp,qC X pins (upd H2 D (.lst [])) b∧b<s3.heap.objs.size:=fun b hb=>by
  have oS:=sz b hb;refine⟨⟨?_,(f2 b hb).2⟩,by rw[h3,Heap.size_push];exact Fv oS⟩;rw[b7 (by rw[←hD];exact dI oS)];exact(f2 b hb).1
 have SI:tn 0 s3.heap:=T.keep _ _ _ oP fun b _ o e=>by rw[h3];exact Heap.get?_push_of_some _ e
 have I4:=FX I3 ok hN f3;have pg:=hg s3 (upd H2 D (.lst [])) s3.heap.objs.size (cellsFrom (s3.heap.objs.size+1) scope.names (eY X.env.cells scope.names [])) fp;have pt:=ht s3 (upd H2 D (.lst [])) s3.heap.objs.size (cellsFrom (s3.heap.objs.size+1) scope.names (eY X.env.cells scope.names [])) fp;have pe:=he s3 (upd H2 D (.lst [])) s3.heap.objs.size (cellsFrom (s3.heap.objs.size+1) scope.names (eY X.env.cells scope.names [])) fp;show codeAny _ _ (.compStart (.ListComp elt [⟨tg,iter,ifs,0⟩] scope pos) 0 (.ref it) (.ref D) (compEnvC scope (cellsFrom (s3.heap.objs.size+1) scope.names (eY X.env.cells scope.names [])) s3.heap.objs.size X.env)) (compPost (model X.prog X.w) X.A X.xe use Qf (.ref D) s3.heap.objs.size) { s3 with heap:=pushCells (s3.heap.push { cls:=.type "dict",data:=.dict #[] }) scope.names };have Y5:∀b∈fp,(upd H2 D (.lst [])) b=none:=fun b hb=>(f3 b hb).1.1;generalize hce:compEnvC scope (cellsFrom (s3.heap.objs.size+1) scope.names (eY X.env.cells scope.names [])) s3.heap.objs.size X.env=ce at I4 pg pt pe ⊢;have cL:ce.locals=s3.heap.objs.size:=by subst hce;rfl
 generalize hH3:upd H2 D (.lst [])=H3 at I3 I4 pg pt pe w0 Y5 f3;generalize hs4:({ s3 with heap:=pushCells (s3.heap.push { cls:=.type "dict",data:=.dict #[] }) scope.names }:Shared)=s4 at I4 ⊢;have Y6:tn 0 s4.heap:=T.keep _ _ _ SI fun b _ o e=>by rw[←hs4];exact pushCells_keeps _ _ _ _ (Heap.get?_push_of_some _ e)
 have AV:∀{σ':St} {H':Hp} {s':Shared},Inv (X.qa s3 H3 scope ce fp) [] σ' H' s'→(∀b∈fp,H' b=none)→∀b∈fp,qC (X.qa s3 H3 scope ce fp) [] H' b:=fun {σ' H' s'} I' hn b hb =>
  ⟨hn b hb,(I'.ok.AL b hb).1,I'.ok.yD b hb,.inl hb,fun x c e=>(I'.ok.AL b hb).2 x c e,fun p hp=>absurd (show p∈([]:List (Addr×Obj))++[] from hp) (by simp)⟩
 have loop:codeAny (model X.prog X.w) X.A (.compLoop (.ListComp elt [⟨tg,iter,ifs,0⟩] scope pos) 0 (.ref it) (.ref D) ce) (compPost (model X.prog X.w) X.A X.xe use Qf (.ref D) s3.heap.objs.size) s4:=by
  refine DP (fun n s'=>∃i H',Inv (X.qa s3 H3 scope ce fp) [] (wipe σ (own.map (·.2))) H' s'∧tn i s'.heap∧(∀b∈fp,H' b=none)∧W i n H') ?_ m0 ⟨0,H3,I4,Y6,Y5,w0⟩;rintro n s5 ⟨i,H5,I5,Nh,n5,w5⟩;rcases turn i n H5 w5 with ⟨stop,qq⟩ | ⟨go,Nx,hNx,step⟩
  ·have td:=T.done (X.qa s3 H3 scope ce fp) rfl rfl rfl hc i [] s5 _ H5 (fun _ _=>False) I5 (AV I5 n5) Nh stop;refine EU td fun r s6 ⟨hr,I6⟩=>?_;subst hr;have I7:Inv X pins σ H5 s6:=I3.FN (ch:=fp) I6.os I6.base I6.dr I6.bare fun b hb=>⟨(f3 b hb).1.2.2.2.1,(f3 b hb).1.2.1,(f3 b hb).1.2.2.2.2.1,(f3 b hb).1.2.2.2.2.2⟩;have nC:H5 s3.heap.objs.size=none:=by
    have z:H5 ce.locals=none:=I6.free;rw[cL] at z;exact z
   obtain⟨m,hn,_⟩:=I6.loc;have hn:s6.heap.Ns ce.locals m:=hn;rw[cL] at hn;exact hRR D s3.heap.objs.size s6 m H5 I7 qq hn (I3.EJ (bB _) nC)
  ·have ti:=T.item (X.qa s3 H3 scope ce fp) rfl rfl rfl hc i [] s5 _ H5 (fun _ _=>False) I5 (AV I5 n5) Nh go;refine EU ti fun r s6 ⟨u,hr,h6⟩=>?_;subst hr;refine EU h6 fun _ s7 ⟨x,H7,I7,r7,y7,Ws,n7⟩=>?_;have I7':=I7.pinned (AV I7 n7) (T.obj _ _ Ws);refine EU (pg _ s7 _ H7 x u _ I7' r7 (step x H7 y7)) fun _ s8 ⟨σ8,H8,I8,Y7,q8⟩=>?_;refine EU (pt _ s8 σ8 H8 _ I8 q8) fun b s9 ⟨H9,I9,q9⟩=>?_;have fin:∀{s':Shared} {H':Hp},Inv (X.qa s3 H3 scope ce fp) ([]++vF fp s7.heap) σ8 H' s'→Nx H'→∃m,m<n∧∃i H',Inv (X.qa s3 H3 scope ce fp) [] (wipe σ (own.map (·.2))) H' s'∧tn i s'.heap∧(∀b∈fp,H' b=none)∧W i m H':=fun {s' H'} I' nx=>by
    obtain⟨m',hm,w'⟩:=hNx H' nx;have Vs:∀b∈fp,∀o,s7.heap.get? b=some o→s'.heap.get? b=some o∧H' b=none:=fun b hb o e =>
     let z:=I'.pin (b,o) (ke _ (ke _ (rf hb e)))
     ⟨z.1,z.2.1⟩
    have hl:(wipe σ (own.map (·.2))).length=σ8.length:=by rw[←Y7,pZ]
    refine⟨m',hm,i+1,H',(I'.sG (pins:=[])).weak hl (fun j v e=>?_),T.keep _ _ _ Ws fun b hb o e=>(Vs b hb o e).1,fun b hb=>?_,w'⟩
    ·rw[←Y7] at e;exact(uL e).1
    ·obtain⟨o,e,_⟩:=T.obj _ _ Ws b hb;exact(Vs b hb o e).2
   cases b with
   | false =>
    simp only[aO,aM] at q9 ⊢;exact fin I9 q9
   | true =>
    simp only[aJ] at q9 ⊢;refine EU (pe _ s9 σ8 H9 _ I9 q9) fun z s10 ⟨yv,H10,I10,Wt,acc,Y8,rm,nx⟩=>?_;exact S8 (X:=X.qa s3 H3 scope ce fp) I10 Y8 rm Wt fun s11 I11=>fin I11 nx
 exact codeAny_compStart_list loop (T.self X.A 0 _ _ _ Y6 loop)
theorem uM {elt tg iter:Expr} {ifs:List Expr} {scope:Scope} {own:List (Str×Nat)} {pos:Pos} {wi:TI} {g:TG} {tt:TT} {te:TE} (hc:X.calm=true) (hN:X.N.Nodup) (hi:PI X tg iter wi) (ok:Bd X.N X.env.scope scope own)
  (hg:∀(s:Shared) (H:Hp) (C:Addr) (cl:List (Str×Addr)) (fp:List Addr),PG (X.qa s H scope (compEnvC scope cl C X.env) fp) tg g) (ht:∀(s:Shared) (H:Hp) (C:Addr) (cl:List (Str×Addr)) (fp:List Addr),S9 (X.qa s H scope (compEnvC scope cl C X.env) fp) ifs tt)
  (he:∀(s:Shared) (H:Hp) (C:Addr) (cl:List (Str×Addr)) (fp:List Addr),PE (X.qa s H scope (compEnvC scope cl C X.env) fp) elt te) (hs:∀x,foldedSetIterable iter X.env x=pure x:=by intro _;rfl) :
  PE X (.ListComp elt [⟨tg,iter,ifs,0⟩] scope pos) (Ta wi g tt te (own.map (·.2))):=by
 intro pins s σ H Q I h;rw[eval_ListComp];refine HU hc hN I hi ok hg ht he hs h fun D C s' m H' I' q hn f=>⟨m,hn,fun HV sb=>?_⟩;obtain⟨f0,f1,f2,f3,f4,f5⟩:=f;exact⟨.ref D,H',I'.turned (t':=s'.toks) (fun b o hb e=>(sb.2 b hb).trans e) f0 f1 f3 f4 f5,rfl,q⟩
theorem EV {i:Nat} {y:Str} {py:Pos} {elt tg iter:Expr} {ifs:List Expr} {scope:Scope} {own:List (Str×Nat)} {pos Vt:Pos} {wi:TI} {g:TG} {tt:TT} {te:TE} (hc:X.calm=true) (hN:X.N.Nodup) (hy:X.N[i]?=some y) (Y9:X.env.scope.names.lookup y=some .local)
  (hsw:swapsWith (.ListComp elt [⟨tg,iter,ifs,0⟩] scope pos) (some (.Name y py)) Vt.line X.env=pure true) (hi:PI X tg iter wi) (ok:Bd X.N X.env.scope scope own)
  (hg:∀(s:Shared) (H:Hp) (C:Addr) (cl:List (Str×Addr)) (fp:List Addr),PG (X.qa s H scope (compEnvC scope cl C X.env) fp) tg g) (ht:∀(s:Shared) (H:Hp) (C:Addr) (cl:List (Str×Addr)) (fp:List Addr),S9 (X.qa s H scope (compEnvC scope cl C X.env) fp) ifs tt)
  (he:∀(s:Shared) (H:Hp) (C:Addr) (cl:List (Str×Addr)) (fp:List Addr),PE (X.qa s H scope (compEnvC scope cl C X.env) fp) elt te) (hs:∀x,foldedSetIterable iter X.env x=pure x:=by intro _;rfl) :
  PS X (.Assign [.Name y py] (.ListComp elt [⟨tg,iter,ifs,0⟩] scope pos) Vt) (Mc (Ta wi g tt te (own.map (·.2))) (AS i)):=by
 intro pins s σ H D I h;rw[exec_Assign_Name_used _ _ _ _ hsw];refine wpAny_bind (wpAny_standAt (wpAny_bind ?_));show wpAny _ X.A (do let _ ←comprehension (.ListComp elt [⟨tg,iter,ifs,0⟩] scope pos) scope X.env (firstIterPos [⟨tg,iter,ifs,0⟩] pos) (newList []) false (eval iter X.env) (some (assign (.Name y py) X.env))) _ _ s;have h:Ta wi g tt te (own.map (·.2)) σ H (fun x H1=>AS i x σ H1 D.nx):=h;refine wpAny_bind (dz (HU (Qf:=fun _ s'=>SP X pins D .next s') hc hN I hi ok hg ht he hs h fun L C s' m H' I' q hn f=>?_) fun _ s' hq=>wpAny_pure (wpAny_pure hq));show wpAny _ _ (assign (.Name y py) X.env (.ref L)) _ _ _;refine wpAny_assign_Name (AO (v:=V.ref L) I' hN hy (.inl Y9) rfl (fun s2 I2 ⟨a,sb,ha⟩=>?_) (.inr Y9));obtain⟨f0,f1,f2,f3,f4,f5⟩:=f;have haC:C≠a:=by
  rcases ha with z | z
  ·rw[z];exact f1
  ·exact fun e=>f4 y a z e.symm
 refine⟨m,hn.sameBut sb haC,fun h3 Wu=>?_⟩;exact⟨_,H',I2.turned (t':=s2.toks) (fun b o hb e=>(Wu.2 b hb).trans e) f0 f1 f3 f4 f5,q⟩
theorem HW {elt:Expr} {gs:List Comprehension} {scope:Scope} {pos py:Pos} {y:Str} {l:Nat} {env:Env} (hk:env.scope.kind=.function) (hy:env.scope.names.lookup y=some .local) (hl:(py.line==pos.line)=true)
  (ha:(scope.names.any fun (n,k)=>n==y&&(k==.local||k==.cell))=false):swapsWith (.ListComp elt gs scope pos) (some (.Name y py)) l env=pure true:=by
 have ky:env.kindOf y=some .local:=hy;have hb:env.blockKind=.function:=by unfold Env.blockKind;rw[hk];rfl
 unfold swapsWith;simp only[hb,ky,ha,Expr.pos,hl];rfl
end
def Vu (N:List Str) (sc scope:Scope) (own:List (Str×Nat)):Bool :=
 (match scope.kind with | .function=>true | _=>false)&&(scope.names.all fun y=>decide (scope.names.lookup y.1=some y.2))&&(own.all fun p=>decide (N[p.2]?=some p.1)) &&
  (scope.names.all fun y=>match y.2 with
   | .free=>(match sc.names.lookup y.1 with | some .cell=>true | some .free=>true | _=>false)
   | .local=>decide (y.1∈own.map (·.1))||decide (y.1∉N)
   | .cell=>decide (y.1∈own.map (·.1))||decide (y.1∉N)
   | _=>true)
theorem jj {N:List Str} {sc scope:Scope} {own:List (Str×Nat)} (h:Vu N sc scope own=true):Bd N sc scope own:=by
 unfold Vu at h;simp only[cI,nq,dG] at h;obtain⟨⟨⟨h1,h2⟩,h3⟩,h4⟩:=h;refine⟨?_,h2,h3,fun y hy e=>?_,fun y hy e=>?_⟩
 ·split at h1
  ·assumption
  ·cases h1
 ·have q:=h4 y hy;simp only[e] at q;split at q<;>first | exact .inl (by assumption) | exact .inr (by assumption) | cases q
 ·have q:=h4 y hy;rcases e with e | e<;>(simp only[e,bR,dG] at q;exact q)
end L2
namespace L2
open PySem PySem.Spec PyProof.Rows
theorem zw:bootBuiltins "reversed"=some (.type "reversed"):=by decide +kernel
section
variable {X:Cx} {pins:List (Addr×Obj)} {σ:St} {H:Hp} {s:Shared} {h':Heap}
theorem Inv.P1 {t':Nat} {ch:List Addr} (I:Inv X pins σ H s) (k:∀b o,b∉ch→s.heap.get? b=some o→h'.get? b=some o) (hf:∀b∈ch,qC X pins H b):Inv X pins σ H { s with heap:=h',toks:=t' }:=by
 have Hn:∀b u,H b=some u→b∉ch:=fun b u e z=>by
  have q:=(hf b z).1;rw[q] at e;cases e
 refine I.step (g':=s.gens) (d':=s.drawn) (ch:=ch) (fun b hb=>⟨(hf b hb).2.2.2.1,(hf b hb).2.1,(hf b hb).2.2.2.2.1,(hf b hb).2.2.2.2.2⟩) (fun b o _ _ hc e _=>k b o hc e) (fun b o _ _ hc e _=>⟨o.slots,k b o hc e⟩)
  (fun _ _ _ _ n=>n) (fun b o hc e=>⟨o,k b o hc e⟩) (fun _ _ e=>e) (fun _ _ _ e=>e) (fun b ps e=>⟨#[],by rw[e];simp⟩) (fun m hm=>?_) (fun b u e=>?_) I.bare
 ·obtain⟨o,es,ep,ho,r⟩:=hm;exact⟨o,es,ep,k _ o (fun z=>(hf _ z).2.1 rfl) ho,r⟩
 ·refine(I.dr b u e).yB (fun c v hc q=>k c v ?_ q) (fun _ q=>q) fun _ _ q=>q;rcases hc with z | z
  ·rw[z];exact Hn b u e
  ·exact Hn c _ z
theorem Inv.Bf {t':Nat} {ch:List Addr} {T:Addr} {ob:HO} (I:Inv X pins σ H s) (k:∀b o,b∉ch→s.heap.get? b=some o→h'.get? b=some o) (hf:∀b∈ch,qC X pins H b) (hT:s.heap.objs.size≤T)
  (new:gZ X.prog X.w (upd H T ob) h' T ob):Inv X pins σ (upd H T ob) { s with heap:=h',toks:=t' }:=by
 have hn:H T=none:=I.dr.fresh hT;have Hn:∀b u,H b=some u→b∉ch:=fun b u e z=>by
  have q:=(hf b z).1;rw[q] at e;cases e
 refine I.step (g':=s.gens) (d':=s.drawn) (ch:=ch) (fun b hb=>⟨(hf b hb).2.2.2.1,(hf b hb).2.1,(hf b hb).2.2.2.2.1,(hf b hb).2.2.2.2.2⟩) (fun b o _ _ hc e _=>k b o hc e) (fun b o _ _ hc e _=>⟨o.slots,k b o hc e⟩)
  (fun b o _ e n=>?_) (fun b o hc e=>⟨o,k b o hc e⟩) (fun b xs e=>?_) (fun b o u e=>?_) (fun b ps e=>⟨#[],?_⟩) (fun m hm=>?_) (fun b u e=>?_) I.bare
 ·rw[b7 (dI (b5 (Heap.lt_size e) hT))];exact n
 ·rw[b7 (da e hn)];exact e
 ·rw[b7 (da e hn)];exact e
 ·rw[b7 (da e hn),e];simp
 ·obtain⟨o,es,ep,ho,r⟩:=hm;exact⟨o,es,ep,k _ o (fun z=>(hf _ z).2.1 rfl) ho,r⟩
 ·by_cases hb:b=T
  ·subst hb;rw[aL] at e;cases e;exact new
  ·rw[b7 hb] at e;refine(I.dr b u e).yB (fun c v hc q=>k c v ?_ q) (fun c q=>by rw[b7 (da q hn)];exact q) fun c xs q=>by rw[b7 (da q hn)];exact q
   rcases hc with z | z
   ·rw[z];exact Hn b u e
   ·exact Hn c _ z
end
section
variable {X:Cx}
theorem Am {tg:Expr} {pins:List (Addr×Obj)} {σ:St} {H:Hp} {s:Shared} {R:It→Hp→Prop} {J:It} {tn:Nat→Heap→Prop} {tk:Nat} (I:Inv X pins σ H s) (o:Obj)
  (T:Turn X.prog X.w X.K tg J [s.heap.objs.size] s.heap.objs.size tn) (st:tn 0 (s.heap.push o)) (q:R J H):V4 X pins σ tg R (.ref s.heap.objs.size) { s with heap:=s.heap.push o,toks:=tk }:=by
 refine⟨s.heap.objs.size,[s.heap.objs.size],tn,J,H,rfl,I.kept fun b ob e=>Heap.get?_push_of_some _ e,T,st,fun b hb=>?_,q⟩;have e:b=s.heap.objs.size:=by simpa using hb
 subst e;exact I.EJ (bB _) (I.dr.fresh (bB _))
end
def Za (lo c:Int) (n:Nat):It:=⟨fun i _=>i<n,fun i H x H'=>H'=H∧x=.int (lo+(i:Nat)*c),fun i _=>n≤i⟩
theorem FY {P:Program} {w:World} {K:aP} {tg:Expr} (it:Addr) (lo c:Int) (n:Nat):Turn P w K tg (Za lo c n) [it] it (fun i h=>IsRangeIter h it (lo+(i:Nat)*c) ((n:Int)-(i:Nat)) c) where
 mem:=by simp
 obj:=fun i h st b hb=>by
  have e:b=it:=by simpa using hb
  subst e;exact⟨_,st,fun v z=>nomatch z⟩
 keep:=fun i h h' st k=>k it (by simp) _ st
 item:=by
  intro X hP hw hK hc i pins s σ H E I hf st hg;subst hP hw hK;obtain⟨f0,f1,f2,f3,f4,f5⟩:=hf it (by simp);have W:=Walks.range (prog:=X.prog) (w:=X.w) (I.ok.hd hc) it lo c n;refine W.item i s _ _ hg st fun v h' tk hv qP kk=>?_;obtain⟨t,rfl⟩:=hv;have I1:Inv X pins σ H { s with heap:=h',toks:=tk }:=I.turned (fun b o hb e=>kk b o (by simpa using hb) e) f0 f1 f3 f4 f5;exact⟨_,rfl,AU (s:={ s with heap:=h',toks:=tk }) (n:="range_iterator") qP rfl rfl J9 ⟨.int (lo+(i:Nat)*c),H,I1,⟨t,rfl⟩,⟨rfl,rfl⟩,qP,fun b hb=>(hf b hb).1⟩⟩
 done:=by
  intro X hP hw hK hc i pins s σ H E I hf st hg;subst hP hw hK;obtain⟨f0,f1,f2,f3,f4,f5⟩:=hf it (by simp);exact wpAny_pyNext_range_end (I.ok.hd hc) st (by have:n≤i:=hg;omega) fun h' eb=>⟨rfl,I.turned (t':=s.toks) (fun b o hb e=>eb b o hb e) f0 f1 f3 f4 f5⟩
 self:=fun A i s Q E st h=>wpAny_pyIter_rangeiter st h
def Wv (i j c:Int) (n:Nat):Prop:=c≠0∧c.natAbs<1073741824∧Builtin.Range.small i j c=true∧Builtin.Range.rangeSize i j c=n
def Ww (ta:TA):TI:=fun σ H R=>ta σ H fun vs H1=>∃(i j c:Int) (n:Nat),vs=[.int i,.int j,.int c]∧Wv i j c n∧R (Za i c n) H1
section
variable {X:Cx} {tg:Expr}
theorem Ky {a b c:Expr} {ta:TA} {p pos:Pos} (hg:Gl X "range") (hm:X.mg "range"=none) (ha:PA X [a,b,c] ta)
  (hs:starEach [a,b,c] X.env=(false,eval a X.env)::starEach [b,c] X.env:=by rfl) (gG:(backTo pos (starEach [b,c] X.env)).any (·.1)=false:=by rfl) :
  PI X tg (.Call (.Name "range" p) [a,b,c] [] pos) (Ww ta):=by
 intro pins s σ H R I h;refine Call_ (sE I hg hm boot_range (tR (dz (ha pos pins s σ H _ I h) fun us s1 ⟨vs,H1,I1,r1,q1⟩=>?_) hs gG));obtain⟨i,j,k,n,e,⟨c0,c1,c2,c3⟩,q⟩:=q1;subst e;cases r1 with
 | cons r rr =>
  cases rr with
  | cons r' rr =>
   cases rr with
   | cons r'' rr =>
    cases rr;obtain⟨t,rfl⟩:=r;obtain⟨t',rfl⟩:=r';obtain⟨t'',rfl⟩:=r'';refine call_range_3 c0 ?_ (.inl (PyProof.noPylong_small c1));refine wpAny_pyIter_range (IsRange.new ..) c2 ?_;have I2:Inv X pins σ H1 { s1 with heap:=s1.heap.push { cls:=.type "range",data:=.fields #[.int i t,.int j t',.int k t''] } }:=I1.kept (t':=s1.toks) fun b o e=>Heap.get?_push_of_some _ e;refine Am (tk:=s1.toks) I2 _ (FY _ i k n) ?_ q;have e1:i+((0:Nat):Int)*k=i:=by simp
    have e2:(n:Int)-((0:Nat):Int)=Builtin.Range.rangeSize i j k:=by rw[c3];simp
    show IsRangeIter _ _ (i+((0:Nat):Int)*k) ((n:Int)-((0:Nat):Int)) k;rw[e1,e2];exact Heap.get?_push_size _ rfl
end
section
variable {X:Cx} {tg:Expr}
end
def Zb (x:Str):It:=⟨fun i _=>i<x.cps.size,fun i H v H'=>H'=H∧∃c,x.cps[i]?=some c∧v=.str ⟨#[c]⟩,fun i _=>x.cps.size≤i⟩
theorem EW {P:Program} {w:World} {K:aP} {tg:Expr} (it:Addr) (x:Str) (t:Tok) (ty:String) (Nu:ty="str_ascii_iterator"∨ty="str_iterator") :
  Turn P w K tg (Zb x) [it] it (fun i h=>h.IsStrIter it ty x t i) where
 mem:=by simp
 obj:=fun i h st b hb=>by
  have e:b=it:=by simpa using hb
  subst e;obtain⟨o,e,c,d⟩:=st;exact⟨o,e,fun v z=>by rw[d] at z;cases z⟩
 keep:=fun i h h' st k=>let ⟨o,ho,r⟩:=st;⟨o,k it (by simp) o ho,r⟩
 item:=by
  intro X hP hw hK hc i pins s σ H E I hf st hg;subst hP hw hK;obtain⟨f0,f1,f2,f3,f4,f5⟩:=hf it (by simp);have W:Walks X.prog X.w X.A it [it] [it] x.cps.size (SignAt x) (fun i h=>h.IsStrIter it ty x t i):=by
   rcases Nu with e | e
   ·rw[e];exact Walks.strAscii (I.ok.hd hc) it x t
   ·rw[e];exact Walks.strWide (I.ok.hd hc) it x t
  have PQ:["enumerate","zip","dict_itemiterator","dict_reverseitemiterator","odict_iterator","itertools.zip_longest","itertools.pairwise"].contains ty=false:=by
   rcases Nu with e | e
   ·rw[e];decide
   ·rw[e];decide
  refine W.item i s _ _ hg st fun v h' tk hv qP kk=>?_;obtain⟨c,u,hcx,rfl⟩:=hv;have I1:Inv X pins σ H { s with heap:=h',toks:=tk }:=I.turned (fun b o hb e=>kk b o (by simpa using hb) e) f0 f1 f3 f4 f5;obtain⟨oi,e,cc,dd⟩:=id qP;exact⟨_,rfl,AU (s:={ s with heap:=h',toks:=tk }) e cc dd PQ ⟨.str ⟨#[c]⟩,H,I1,⟨u,rfl⟩,⟨rfl,c,hcx,rfl⟩,qP,fun b hb=>(hf b hb).1⟩⟩
 done:=by
  intro X hP hw hK hc i pins s σ H E I hf st hg;subst hP hw hK;obtain⟨f0,f1,f2,f3,f4,f5⟩:=hf it (by simp);have hx:x.cps[i]?=none:=Array.getElem?_eq_none hg;rcases Nu with e | e
  ·rw[e] at st;exact wpAny_pyNext_ascii_end (I.ok.hd hc) st hx fun h' eb=>⟨rfl,I.turned (t':=s.toks) (fun b o hb e=>eb b o hb e) f0 f1 f3 f4 f5⟩
  ·rw[e] at st;exact wpAny_pyNext_wide_end (I.ok.hd hc) st hx fun h' eb=>⟨rfl,I.turned (t':=s.toks) (fun b o hb e=>eb b o hb e) f0 f1 f3 f4 f5⟩
 self:=fun A i s Q E st h=>by
  rcases Nu with e | e
  ·rw[e] at st;exact wpAny_pyIter_striter_ascii st h
  ·rw[e] at st;exact wpAny_pyIter_striter_wide st h
def Zc (te:TE):TI:=fun σ H R=>te σ H fun v H1=>∃x,v=.str x∧R (Zb x) H1
theorem Td {X:Cx} {tg e:Expr} {te:TE} (he:PE X e te):PI X tg e (Zc te):=by
 intro pins s σ H R I h;refine dz (he pins s σ H _ I h) fun v s1 ⟨y,H1,I1,r1,x,ex,q⟩=>?_;subst ex;obtain⟨t,rfl⟩:=r1;cases ha:x.cps.all (·<128)
 ·exact wpAny_pyIter_wide ha (Am (tk:=s1.toks) I1 _ (EW _ x t "str_iterator" (.inr rfl)) ⟨_,Heap.get?_push_size _ rfl,rfl,rfl⟩ q)
 ·exact wpAny_pyIter_ascii ha (Am (tk:=s1.toks) I1 _ (EW _ x t "str_ascii_iterator" (.inl rfl)) ⟨_,Heap.get?_push_size _ rfl,rfl,rfl⟩ q)
def Zd (K:aP) (a:Addr):It :=
 ⟨fun i H=>∃(xs:List V) (x:V),bU K H a xs∧xs[i]?=some x,fun i H v H'=>∃T x,v=.ref T∧H T=none∧H'=upd H T (.tup [.int (i:Nat),x])∧∀xs,bU K H a xs→xs[i]?=some x,fun i H=>∃xs:List V,bU K H a xs∧xs.length≤i⟩
theorem Kz {P:Program} {w:World} {K:aP} {elts:List Expr} {kk:Nat} {yI:Pos} (a e it:Addr) :
  Turn P w K (.Tuple elts kk yI) (Zd K a) [e,it] e (fun i h=>(∃old,IsEnum h e it ((i:Nat):Int) old)∧h.IsListIter it a i∧e≠it) where
 mem:=by simp
 obj:=fun i h st b hb=>by
  obtain⟨⟨old,he⟩,⟨o,ho,hc,hd⟩,_⟩:=st;have e':b=e∨b=it:=by simpa using hb
  rcases e' with z | z
  ·rw[z];exact⟨_,he,fun v q=>nomatch q⟩
  ·rw[z];exact⟨o,ho,fun v q=>by rw[hd] at q;cases q⟩
 keep:=fun i h h' st k=>let ⟨⟨old,he⟩,hi,iW⟩:=st;⟨⟨old,k e (by simp) _ he⟩,hi.at fun o q=>k it (by simp) o q,iW⟩
 item:=by
  intro X hP hw hK hc i pins s σ H E I hf st hg;subst hP hw hK;obtain⟨⟨old,he⟩,lP,iW⟩:=st;obtain⟨xs,x,hq,hx⟩:=hg;obtain⟨bq,rv,p,hz⟩:=I.list hq;obtain⟨u,hu,ru⟩:=rv.get hx;have Ze:e<s.heap.objs.size:=Heap.lt_size he;have hil:it<s.heap.objs.size:=by obtain⟨_,q,_⟩:=lP;exact Heap.lt_size q
  refine wpAny_pyNext_enum_item he lP p.isList (x:=u) (by simpa using hu) iW fun h' ho Zf hT hsz hk=>?_;refine⟨_,rfl,wpAny_letOwnedTupleGo_enum (s:={ s with heap:=h',toks:=s.toks+1 }) ho fun HV he' sb=>?_⟩;have Wx:HV.get? s.heap.objs.size=some { cls:=.type "tuple",data:=.seq #[.int i s.toks,u] }:=(sb.2 _ (Nat.ne_of_gt Ze)).trans hT;have new:gZ X.prog X.w (upd H s.heap.objs.size (.tup [.int (i:Nat),x])) HV s.heap.objs.size (.tup [.int (i:Nat),x]) :=
   ⟨by show 2≤sizeLine;decide,[.int i s.toks,u],.cons ⟨_,rfl⟩ (.cons ru .nil),⟨_,Wx,rfl,_,rfl⟩⟩
  have I1:Inv X pins σ (upd H s.heap.objs.size (.tup [.int (i:Nat),x])) { s with heap:=HV,toks:=s.toks+1 } :=
   I.Bf (ch:=[e,it]) (fun b ob hb q=>(sb.2 b (fun z=>hb (by simp[z]))).trans (hk b ob (fun z=>hb (by simp[z])) (fun z=>hb (by simp[z])) q)) hf (bB _) new
  refine⟨.ref s.heap.objs.size,_,I1,rfl,⟨_,x,rfl,I.dr.fresh (bB _),rfl,fun ys hy=>by rw[I.sF hy hq];exact hx⟩,⟨⟨u,?_⟩,Zf.at fun o q=>(sb.2 it (j7 iW)).trans q,iW⟩,fun b hb=>?_⟩
  ·have e1:((i+1:Nat):Int)=(i:Int)+1:=by omega
   rw[e1];exact he'
  ·have hb':b<s.heap.objs.size:=by
    have e':b=e∨b=it:=by simpa using hb
    rcases e' with z | z
    ·rw[z];exact Ze
    ·rw[z];exact hil
   rw[b7 (dI hb')];exact(hf b hb).1
 done:=by
  intro X hP hw hK hc i pins s σ H E I hf st hg;subst hP hw hK;obtain⟨⟨old,he⟩,lP,iW⟩:=st;obtain⟨xs,hq,hx⟩:=hg;obtain⟨bq,rv,p,hz⟩:=I.list hq;obtain⟨f0,f1,f2,f3,f4,f5⟩:=hf it (by simp);have hl:=rv.length;exact wpAny_pyNext_enum_end (I.ok.hd hc) he lP p.isList (by simp;omega) fun h' eb=>⟨rfl,I.turned (t':=s.toks) (fun b o hb q=>eb b o hb q) f0 f1 f3 f4 f5⟩
 self:=fun A i s Q E st h=>let ⟨⟨_,he⟩,_⟩:=st;wpAny_pyIter_enum he h
def Wy (K:aP) (ta:TA):TI:=fun σ H R=>ta σ H fun vs H1=>∃a xs,vs=[.ref a]∧bU K H1 a xs∧R (Zd K a) H1
theorem Bg {X:Cx} {e:Expr} {ta:TA} {p pos yI:Pos} {elts:List Expr} {kk:Nat} (hg:Gl X "enumerate") (hm:X.mg "enumerate"=none) (ha:PA X [e] ta) (hs:starEach [e] X.env=[(false,eval e X.env)]:=by rfl) :
  PI X (.Tuple elts kk yI) (.Call (.Name "enumerate" p) [e] [] pos) (Wy X.K ta):=by
 intro pins s σ H R I h;refine Call_ (sE I hg hm boot_enumerate (tR (dz (ha pos pins s σ H _ I h) fun us s1 ⟨vs,H1,I1,r1,q1⟩=>?_) hs rfl));obtain⟨a,xs,ex,hq,q⟩:=q1;subst ex;cases r1 with
 | cons r rr =>
  cases rr;cases r;obtain⟨bq,rv,p',hz⟩:=I1.list hq;refine call_enumerate_list p'.isList fun h' he lP hsz hk=>wpAny_pyIter_enum he ?_;have I2:Inv X pins σ H1 { s1 with heap:=h' }:=I1.kept (t':=s1.toks) hk;refine⟨s1.heap.objs.size+1,[s1.heap.objs.size+1,s1.heap.objs.size],_,_,H1,rfl,I2,Kz a (s1.heap.objs.size+1) s1.heap.objs.size,⟨⟨.none,he⟩,lP,Nat.succ_ne_self _⟩,fun b hb=>?_,q⟩;have e':b=s1.heap.objs.size+1∨b=s1.heap.objs.size:=by simpa using hb
  have hle:s1.heap.objs.size≤b:=by
   rcases e' with z | z
   ·rw[z];exact uF _ _
   ·rw[z];exact bB _
  exact I1.EJ hle (I1.dr.fresh hle)
theorem KA:bootBuiltins "zip"=some (.type "zip"):=by decide +kernel
def Zg (K:aP) (a b:Addr):It :=
 ⟨fun i H=>∃(xs ys:List V) (x y:V),bU K H a xs∧bU K H b ys∧xs[i]?=some x∧ys[i]?=some y,
  fun i H v H'=>∃T x y,v=.ref T∧H T=none∧H'=upd H T (.tup [x,y])∧(∀xs,bU K H a xs→xs[i]?=some x)∧∀ys,bU K H b ys→ys[i]?=some y,
  fun i H=>∃xs ys:List V,bU K H a xs∧bU K H b ys∧(xs.length≤i∨ys.length≤i)⟩
theorem Nz {P:Program} {w:World} {K:aP} {elts:List Expr} {kk:Nat} {yI:Pos} {a b z TI TO i1 i2:Addr} (D:ZipApart z TI TO i1 i2 a b) :
  Turn P w K (.Tuple elts kk yI) (Zg K a b) [z,TI,TO,i1,i2] z (fun i h=>IsZip h z TI TO .none∧IsPair h TI (.ref i1) (.ref i2)∧(∃x y,IsPair h TO x y)∧h.IsListIter i1 a i∧h.IsListIter i2 b i) where
 mem:=by simp
 obj:=fun i h st c hc=>by
  obtain⟨hz,Bh,⟨x,y,DQ⟩,⟨o1,e1,_,d1⟩,⟨o2,e2,_,d2⟩⟩:=st;have e':c=z∨c=TI∨c=TO∨c=i1∨c=i2:=by simpa using hc
  rcases e' with q | q | q | q | q
  ·rw[q];exact⟨_,hz,fun v q=>nomatch q⟩
  ·rw[q];exact⟨_,Bh,fun v q=>nomatch q⟩
  ·rw[q];exact⟨_,DQ,fun v q=>nomatch q⟩
  ·rw[q];exact⟨o1,e1,fun v q=>by rw[d1] at q;cases q⟩
  ·rw[q];exact⟨o2,e2,fun v q=>by rw[d2] at q;cases q⟩
 keep:=fun i h h' st k=>by
  obtain⟨hz,Bh,⟨x,y,DQ⟩,h1,h2⟩:=st;exact⟨k z (by simp) _ hz,k TI (by simp) _ Bh,⟨x,y,k TO (by simp) _ DQ⟩,h1.at fun o q=>k i1 (by simp) o q,h2.at fun o q=>k i2 (by simp) o q⟩
 item:=by
  intro X hP hw hK hc i pins s σ H E I hf st hg;subst hP hw hK;obtain⟨hz,Bh,⟨x0,y0,DQ⟩,h1,h2⟩:=st;obtain⟨xs,ys,x,y,NA,NB,hx,hy⟩:=hg;obtain⟨bq,rv,p,_⟩:=I.list NA;obtain⟨rk,Tf,p2,_⟩:=I.list NB;obtain⟨u,hu,ru⟩:=rv.get hx;obtain⟨u2,hu2,ru2⟩:=Tf.get hy;have Zh:z<s.heap.objs.size:=Heap.lt_size hz;refine wpAny_pyNext_zip_item D hz Bh DQ h1 h2 p.isList p2.isList (x:=u) (y:=u2) (by simpa using hu) (by simpa using hu2) fun h' z' TO' uN tS hT hsz hk=>?_;refine⟨_,rfl,wpAny_letOwnedTupleGo_zip (s:={ s with heap:=h' }) z' fun HV z'' sb=>?_⟩;have Wx:HV.get? s.heap.objs.size=some { cls:=.type "tuple",data:=.seq #[u,u2] }:=(sb.2 _ (Nat.ne_of_gt Zh)).trans hT;have new:gZ X.prog X.w (upd H s.heap.objs.size (.tup [x,y])) HV s.heap.objs.size (.tup [x,y]) :=
   ⟨by show 2≤sizeLine;decide,[u,u2],.cons ru (.cons ru2 .nil),⟨_,Wx,rfl,_,rfl⟩⟩
  have I1:Inv X pins σ (upd H s.heap.objs.size (.tup [x,y])) { s with heap:=HV } :=
   I.Bf (t':=s.toks) (ch:=[z,TI,TO,i1,i2]) (fun c o hb q=>(sb.2 c (fun q'=>hb (by simp[q']))).trans (hk c o (fun q'=>hb (by simp[q'])) (fun q'=>hb (by simp[q'])) (fun q'=>hb (by simp[q'])) (fun q'=>hb (by simp[q'])) q)) hf (bB _) new
  refine⟨.ref s.heap.objs.size,_,I1,rfl,⟨_,x,y,rfl,I.dr.fresh (bB _),rfl,fun l hl=>by rw[I.sF hl NA];exact hx,fun l hl=>by rw[I.sF hl NB];exact hy⟩,⟨z'',?_,⟨u,u2,?_⟩,?_,?_⟩,fun c Tg=>?_⟩
  ·exact(sb.2 _ D.TIz).trans (hk _ _ D.TIz D.TITO D.TIi1 D.TIi2 Bh)
  ·exact(sb.2 _ D.TOz).trans TO'
  ·exact uN.at fun o q=>(sb.2 _ D.i1z).trans q
  ·exact tS.at fun o q=>(sb.2 _ D.i2z).trans q
  ·have oS:c<s.heap.objs.size:=by
    have e':c=z∨c=TI∨c=TO∨c=i1∨c=i2:=by simpa using Tg
    rcases e' with q | q | q | q | q
    ·rw[q];exact Zh
    ·rw[q];exact Heap.lt_size Bh
    ·rw[q];exact Heap.lt_size DQ
    ·rw[q];obtain⟨_,e1,_⟩:=h1;exact Heap.lt_size e1
    ·rw[q];obtain⟨_,e2,_⟩:=h2;exact Heap.lt_size e2
   rw[b7 (dI oS)];exact(hf c Tg).1
 done:=by
  intro X hP hw hK hc i pins s σ H E I hf st hg;subst hP hw hK;obtain⟨hz,Bh,⟨x0,y0,DQ⟩,h1,h2⟩:=st;obtain⟨xs,ys,NA,NB,Zi⟩:=hg;obtain⟨bq,rv,p,_⟩:=I.list NA;obtain⟨rk,Tf,p2,_⟩:=I.list NB;have l1:=rv.length;have l2:=Tf.length;have he:bq.toArray[i]?=none∨rk.toArray[i]?=none:=by
   rcases Zi with q | q
   ·exact .inl (by simp;omega)
   ·exact .inr (by simp;omega)
  exact wpAny_pyNext_zip_end (I.ok.hd hc) D hz Bh DQ h1 h2 p.isList p2.isList he fun h' hk=>⟨rfl,I.P1 (t':=s.toks) (ch:=[z,TI,TO,i1,i2]) (fun c o hb q =>
   hk c o (fun q'=>hb (by simp[q'])) (fun q'=>hb (by simp[q'])) (fun q'=>hb (by simp[q'])) (fun q'=>hb (by simp[q'])) q) hf⟩
 self:=fun A i s Q E st h=>wpAny_pyIter_zip st.1 h
def Zj (K:aP) (ta:TA):TI:=fun σ H R=>ta σ H fun vs H1=>∃a b xs ys,vs=[.ref a,.ref b]∧bU K H1 a xs∧bU K H1 b ys∧R (Zg K a b) H1
theorem Mp {X:Cx} {e e2:Expr} {ta:TA} {p pos yI:Pos} {elts:List Expr} {kk:Nat} (hg:Gl X "zip") (hm:X.mg "zip"=none) (ha:PA X [e,e2] ta)
  (hs:starEach [e,e2] X.env=(false,eval e X.env)::starEach [e2] X.env:=by rfl) (gG:(backTo pos (starEach [e2] X.env)).any (·.1)=false:=by rfl) :
  PI X (.Tuple elts kk yI) (.Call (.Name "zip" p) [e,e2] [] pos) (Zj X.K ta):=by
 intro pins s σ H R I h;refine Call_ (sE I hg hm KA (tR (dz (ha pos pins s σ H _ I h) fun us s1 ⟨vs,H1,I1,r1,q1⟩=>?_) hs gG));obtain⟨a,b,xs,ys,ex,NA,NB,q⟩:=q1;subst ex;cases r1 with
 | cons r rr =>
  cases rr with
  | cons r' rr =>
   cases rr;cases r;cases r';obtain⟨bq,rv,p1,_⟩:=I1.list NA;obtain⟨rk,Tf,p2,_⟩:=I1.list NB;have la:a<s1.heap.objs.size:=p1.lt;have lb:b<s1.heap.objs.size:=p2.lt;refine call_zip_2 p1.isList p2.isList fun h' hz Bh DQ h1 h2 hsz hk=>wpAny_pyIter_zip hz ?_;have I2:Inv X pins σ H1 { s1 with heap:=h' }:=I1.kept (t':=s1.toks) hk;refine⟨s1.heap.objs.size+4,[s1.heap.objs.size+4,s1.heap.objs.size+2,s1.heap.objs.size+3,s1.heap.objs.size,s1.heap.objs.size+1],_,_,H1,rfl,I2,Nz (PySem.W.ktu_apart s1.heap.objs.size a b la lb),⟨hz,Bh,⟨_,_,DQ⟩,h1,h2⟩,fun c Tg=>?_,q⟩;have e':c=s1.heap.objs.size+4∨c=s1.heap.objs.size+2∨c=s1.heap.objs.size+3∨c=s1.heap.objs.size∨c=s1.heap.objs.size+1:=by simpa using Tg
   have hle:s1.heap.objs.size≤c:=by
    rcases e' with z | z | z | z | z
    ·rw[z];exact uF _ _
    ·rw[z];exact uF _ _
    ·rw[z];exact uF _ _
    ·rw[z];exact bB _
    ·rw[z];exact uF _ _
   exact I1.EJ hle (I1.dr.fresh hle)
end L2
section
namespace P2
open PySem PyProof.Rows
theorem vR {x:Int} (k:Nat) (hx:0≤x):Builtin.bitAnd x (2^k-1)=x%2^k:=by
 obtain⟨n,rfl⟩:=aA hx;have hp:0<2^k:=cV k;rw[two_pow_cast];have e:((2^k:Nat):Int)-1=((2^k-1:Nat):Int):=by
  generalize (2:Nat)^k=m at hp;omega
 rw[e,bitAnd_pp Kf Kf,aN,aN,Nat.and_two_pow_sub_one_eq_mod]
 first
  | rfl
  | exact Int.natCast_emod _ _
  | simp
end P2
end
namespace L2
open PySem PySem.Spec PyProof.Rows
open PySem.W (WData Codec OpenSpec Well WellAll ReadsW ReadsAllW)
mutual
inductive Dw (K:aP) (H:Hp):V→WData→Prop
 | fU:Dw K H .fU .none
 | bl (b:Bool):Dw K H (.bl b) (.bool b)
 | int (i:Int):Dw K H (.int i) (.int i)
 | str (x:Str):Dw K H (.str x) (.str x)
 | tN (b:Array UInt8):Dw K H (.tN b) (.bytes b.toList)
 | lst {a:Addr} {xs:List V} {ds:List WData}:bU K H a xs→kJ K H xs ds→Dw K H (.ref a) (.list ds)
 | tup {a:Addr} {xs:List V} {ds:List WData}:j3 K H a xs→kJ K H xs ds→Dw K H (.ref a) (.tuple ds)
inductive kJ (K:aP) (H:Hp):List V→List WData→Prop
 | nil:kJ K H [] []
 | cons {v:V} {vs:List V} {d:WData} {ds:List WData}:Dw K H v d→kJ K H vs ds→kJ K H (v::vs) (d::ds)
end
theorem HX {K:aP} {H:Hp}:∀ns:List Int,kJ K H (ns.map V.int) (ns.map WData.int)
 | []=>.nil
 | n::r=>.cons (.int n) (HX r)
theorem HY {K:aP} {H:Hp}:∀(ns:List Int) (xs:List V),kJ K H xs (ns.map WData.int)→xs=ns.map V.int
 | [],xs,h=>by
  cases h;rfl
 | n::r,xs,h=>by
  cases h with
  | cons h1 h2 =>
   cases h1;rw[HY r _ h2]<;>rfl
section
variable {P:Program} {w:World} {K:aP} {H:Hp} {h:Heap} {R:PySem.W.WRecords} {cl:Str→Option Addr}
theorem Th {a:Addr} {xs:List V} (dr:jt P w H h) (KX:K.In h) (q:bU K H a xs):∃(bq:List Value) (o:Obj) (n:Nat),Vals xs bq∧h.get? a=some o∧o.cls=.type "list"∧o.data=.seq bq.toArray n:=by
 rcases q with q | ⟨o,bq,n,e,hc,_,hd,_,hv⟩
 ·obtain⟨_,bq,n,hv,e⟩:=(show gZ P w H h a (.lst xs) from q.ok dr);exact⟨bq,_,n,hv,e,rfl,rfl⟩
 ·exact⟨bq.toList,o,n,hv,KX _ _ e,hc,by simp[hd]⟩
theorem Ti {a:Addr} {xs:List V} (dr:jt P w H h) (KX:K.In h) (q:j3 K H a xs):∃(bq:List Value) (o:Obj) (n:Nat),Vals xs bq∧h.get? a=some o∧o.cls=.type "tuple"∧o.data=.seq bq.toArray n:=by
 rcases q with q | ⟨o,bq,n,e,hc,hd,_,hv⟩
 ·obtain⟨_,bq,hv,o,e,hc,n,hd⟩:=(show gZ P w H h a (.tup xs) from q.ok dr);exact⟨bq,o,n,hv,e,hc,hd⟩
 ·exact⟨bq.toList,o,n,hv,KX _ _ e,hc,by simp[hd]⟩
mutual
theorem Dw.reads (dr:jt P w H h) (KX:K.In h):∀(d:WData) (v:V) (u:Value),Dw K H v d→RelV v u→∃as,ReadsW R cl h u d as
 | .none,_,_,x,r=>by
  cases x;cases r;exact⟨_,ReadsW.none⟩
 | .bool b,_,_,x,r=>by
  cases x;cases r;exact⟨_,ReadsW.bool b⟩
 | .int i,_,_,x,r=>by
  cases x;obtain⟨t,rfl⟩:=r;exact⟨_,ReadsW.int i t⟩
 | .str s,_,_,x,r=>by
  cases x;obtain⟨t,rfl⟩:=r;exact⟨_,ReadsW.str s t⟩
 | .bytes b,_,_,x,r=>by
  cases x;obtain⟨t,rfl⟩:=r;exact⟨_,ReadsW.bytes _ t⟩
 | .list ds,_,_,x,r=>by
  cases x with
  | lst hs ha =>
   cases r;obtain⟨bq,o,n,rv,ho,hc,hd⟩:=Th dr KX hs;obtain⟨as,hr⟩:=Dw.readsAll dr KX ds _ bq ha rv;exact⟨_,ReadsW.list ho hc hd hr⟩
 | .tuple ds,_,_,x,r=>by
  cases x with
  | tup hs ha =>
   cases r;obtain⟨bq,o,n,rv,ho,hc,hd⟩:=Ti dr KX hs;obtain⟨as,hr⟩:=Dw.readsAll dr KX ds _ bq ha rv;exact⟨_,ReadsW.tuple ho hc hd hr⟩
 | .float _,_,_,x,_=>by cases x
 | .dict _,_,_,x,_=>by cases x
 | .bytearray _,_,_,x,_=>by cases x
 | .set _,_,_,x,_=>by cases x
 | .frozenset _,_,_,x,_=>by cases x
 | .obj _ _,_,_,x,_=>by cases x
theorem Dw.readsAll (dr:jt P w H h) (KX:K.In h):∀(ds:List WData) (vs:List V) (us:List Value),kJ K H vs ds→Vals vs us→∃as,ReadsAllW R cl h us ds as
 | [],_,_,x,r=>by
  cases x;cases r;exact⟨_,ReadsAllW.nil⟩
 | d::ds,_,_,x,r=>by
  cases x with
  | cons h1 h2 =>
   cases r with
   | cons r1 r2 =>
    obtain⟨as,q1⟩:=Dw.reads dr KX d _ _ h1 r1;obtain⟨bs,q2⟩:=Dw.readsAll dr KX ds _ _ h2 r2;exact⟨_,ReadsAllW.cons q1 q2⟩
end
end
mutual
def vS:WData→Bool
 | .none=>true
 | .bool _=>true
 | .int _=>true
 | .str _=>true
 | .bytes _=>true
 | .list xs=>qE xs
 | .tuple xs=>qE xs
 | _=>false
def qE:List WData→Bool
 | []=>true
 | x::r=>vS x&&qE r
end
theorem EY {α:Type} {f:α→WData} (h:∀a,vS (f a)=true):∀l:List α,qE (l.map f)=true
 | []=>rfl
 | x::r=>by
  show (vS (f x)&&qE (r.map f))=true;rw[h x,EY h r]<;>rfl
theorem nN:∀(c:Codec) (a:c.denote),vS (c.enc a)=true
 | .unit,_=>rfl
 | .bool,_=>rfl
 | .int _ _,_=>rfl
 | .nat _ _,_=>rfl
 | .u8,_=>rfl
 | .bytes _ _,_=>rfl
 | .text _ _ _ _,_=>rfl
 | .list _ _ c,a=>EY (fun x=>nN c x) a
 | .pair c d,a=>by
  show (vS (c.enc a.1)&&(vS (d.enc a.2)&&true))=true;rw[nN c a.1,nN d a.2]<;>rfl
 | .triple c d e,a=>by
  show (vS (c.enc a.1)&&(vS (d.enc a.2.1)&&(vS (e.enc a.2.2)&&true)))=true;rw[nN c a.1,nN d a.2.1,nN e a.2.2]<;>rfl
 | .option c,none=>rfl
 | .option c,some x=>nN c x
theorem Bi:∀(cs:List Codec) (a:Codec.denoteAll cs),qE (Codec.encAll cs a)=true
 | [],_=>rfl
 | c::cs,a=>by
  show (vS (c.enc a.1)&&qE (Codec.encAll cs a.2))=true;rw[nN c a.1,Bi cs a.2]<;>rfl
theorem rp:∀{xs:List WData} {d:WData},d∈xs→d.weight≤WData.weightAll xs
 | [],d,h=>absurd h (by simp)
 | x::r,d,h=>by
  show d.weight≤x.weight+1+WData.weightAll r;rcases cO.mp h with e | m
  ·rw[e];omega
  ·have z:=rp m;omega
def toV:Value→V
 | .none=>.fU
 | .bool b=>.bl b
 | .int i _=>.int i
 | .str x _=>.str x
 | .bytes b _=>.tN b
 | .ref a=>.ref a
 | _=>.fU
def xM (A:List Addr):Value→Prop
 | .none=>True
 | .bool _=>True
 | .int _ _=>True
 | .str _ _=>True
 | .bytes _ _=>True
 | .ref a=>a∈A
 | _=>False
theorem xM.mono {A B:List Addr} (h:∀a∈A,a∈B):∀{u:Value},xM A u→xM B u:=fun {u} x=>by
 cases u with
 | ref a=>exact h a x
 | none=>trivial
 | bool b=>trivial
 | int i t=>trivial
 | str s t=>trivial
 | bytes b t=>trivial
 | _=>exact False.elim x
theorem NC {A:List Addr} {u:Value} (x:xM A u):RelV (toV u) u:=by
 cases u with
 | ref a=>rfl
 | none=>rfl
 | bool b=>rfl
 | int i t=>exact⟨t,rfl⟩
 | str s t=>exact⟨t,rfl⟩
 | bytes b t=>exact⟨t,rfl⟩
 | _=>exact False.elim x
theorem mf {A:List Addr}:∀{vs:List Value},(∀u∈vs,xM A u)→Vals (vs.map toV) vs
 | [],_=>.nil
 | u::r,h=>.cons (NC (h u (fA ..))) (mf fun x hx=>h x (dv _ hx))
def lC (h:Heap) (A:List Addr) (a:Addr):Prop:=∃vs:List Value,vs.length≤sizeLine∧(∀u∈vs,xM A u) ∧
 (h.get? a=some { cls:=.type "list",data:=.seq vs.toArray }∨h.get? a=some { cls:=.type "tuple",data:=.seq vs.toArray })
theorem lC.mono {h:Heap} {A B:List Addr} {a:Addr} (k:∀a∈A,a∈B) (x:lC h A a):lC h B a:=by
 obtain⟨vs,h1,h2,h3⟩:=x;exact⟨vs,h1,fun u hu=>(h2 u hu).mono k,h3⟩
theorem lQ {P:Params} {h:Heap}:∀{vs:List Value} {ds:List WData},WellAll P h vs ds→vs.length=ds.length
 | _,_,.nil=>rfl
 | _,_,.cons _ b=>by
  show _+1=_+1;rw[lQ b]
theorem Bj {P:Params} {h:Heap} {v:Value} {ds:List WData} (x:Well P h v (.list ds)):∃(a:Addr) (vs:List Value),v=.ref a∧h.get? a=some { cls:=.type "list",data:=.seq vs.toArray }∧WellAll P h vs ds:=by
 cases x with
 | list ho jP=>exact⟨_,_,rfl,ho,jP⟩
theorem yK {P:Params} {h:Heap} {v:Value} {ds:List WData} (x:Well P h v (.tuple ds)):∃(a:Addr) (vs:List Value),v=.ref a∧h.get? a=some { cls:=.type "tuple",data:=.seq vs.toArray }∧WellAll P h vs ds:=by
 cases x with
 | tuple ho jP=>exact⟨_,_,rfl,ho,jP⟩
theorem Bk {P:Params} {h:Heap} {us:List Value} {d:WData} {ds:List WData} (x:WellAll P h us (d::ds)):∃(v:Value) (vs:List Value),us=v::vs∧Well P h v d∧WellAll P h vs ds:=by
 cases x with
 | cons a b=>exact⟨_,_,rfl,a,b⟩
theorem HZ {n:Nat} (h:n≤1048576):n≤sizeLine:=bZ h J9
section
variable {P:Params} {h:Heap}
mutual
theorem ND:∀(d:WData) (v:Value),Well P h v d→vS d=true→d.weight≤1048576→∃A:List Addr,xM A v∧∀a∈A,lC h A a
 | .none,_,x,_,_=>by
  cases x;exact⟨[],trivial,fun a m=>absurd m (by simp)⟩
 | .bool b,_,x,_,_=>by
  cases x;exact⟨[],trivial,fun a m=>absurd m (by simp)⟩
 | .int i,_,x,_,_=>by
  cases x;exact⟨[],trivial,fun a m=>absurd m (by simp)⟩
 | .str s,_,x,_,_=>by
  cases x;exact⟨[],trivial,fun a m=>absurd m (by simp)⟩
 | .bytes b,_,x,_,_=>by
  cases x;exact⟨[],trivial,fun a m=>absurd m (by simp)⟩
 | .list ds,_,x,p,z=>by
  obtain⟨a,vs,rfl,ho,jP⟩:=Bj x;have z2:WData.weightAll ds≤1048576:=z;obtain⟨A,h1,h2⟩:=sR ds _ jP p fun d hd=>bZ (rp hd) z2;have k:∀b∈A,b∈a::A:=fun b hb=>dv _ hb;refine⟨a::A,fA ..,fun b hb=>?_⟩;rcases cO.mp hb with e | m
  ·rw[e];exact⟨vs,HZ (by rw[lQ jP];exact bZ (PySem.W.length_le_weightAllW ds) z2),fun u hu=>(h1 u hu).mono k,.inl ho⟩
  ·exact(h2 b m).mono k
 | .tuple ds,_,x,p,z=>by
  obtain⟨a,vs,rfl,ho,jP⟩:=yK x;have z2:WData.weightAll ds≤1048576:=z;obtain⟨A,h1,h2⟩:=sR ds _ jP p fun d hd=>bZ (rp hd) z2;have k:∀b∈A,b∈a::A:=fun b hb=>dv _ hb;refine⟨a::A,fA ..,fun b hb=>?_⟩;rcases cO.mp hb with e | m
  ·rw[e];exact⟨vs,HZ (by rw[lQ jP];exact bZ (PySem.W.length_le_weightAllW ds) z2),fun u hu=>(h1 u hu).mono k,.inr ho⟩
  ·exact(h2 b m).mono k
 | .float _,_,_,p,_=>Bool.noConfusion (show false=true from p)
 | .dict _,_,_,p,_=>Bool.noConfusion (show false=true from p)
 | .bytearray _,_,_,p,_=>Bool.noConfusion (show false=true from p)
 | .set _,_,_,p,_=>Bool.noConfusion (show false=true from p)
 | .frozenset _,_,_,p,_=>Bool.noConfusion (show false=true from p)
 | .obj _ _,_,_,p,_=>Bool.noConfusion (show false=true from p)
theorem sR:∀(ds:List WData) (vs:List Value),WellAll P h vs ds→qE ds=true→(∀d∈ds,d.weight≤1048576)→∃A:List Addr,(∀u∈vs,xM A u)∧∀a∈A,lC h A a
 | [],_,x,_,_=>by
  cases x;exact⟨[],fun u m=>absurd m (by simp),fun a m=>absurd m (by simp)⟩
 | d::ds,_,x,p,z=>by
  obtain⟨v,vs,rfl,x1,x2⟩:=Bk x;have q:vS d=true∧qE ds=true:=j6.mp p;obtain⟨A,a1,a2⟩:=ND d v x1 q.1 (z d (fA ..));obtain⟨B,b1,b2⟩:=sR ds vs x2 q.2 fun e he=>z e (dv _ he);have kA:∀b∈A,b∈A++B:=fun b hb=>pJ.mpr (.inl hb);have kB:∀b∈B,b∈A++B:=fun b hb=>pJ.mpr (.inr hb);refine⟨A++B,fun u hu=>?_,fun b hb=>?_⟩
  ·rcases cO.mp hu with e | m
   ·rw[e];exact a1.mono kA
   ·exact(b1 u m).mono kB
  ·rcases pJ.mp hb with m | m
   ·exact(a2 b m).mono kA
   ·exact(b2 b m).mono kB
end
end
def Mq (o:Obj):Option HO:=match o.data with
 | .seq vs _=>if (o.cls==Value.type "list")=true then some (.oI o (.lst (vs.toList.map toV))) else some (.oI o (.tup (vs.toList.map toV)))
 | _=>none
def kg (K:aP) (h:Heap) (A:List Addr):Hp:=fun b=>if b∈A then (if (K.lookup b).isNone=true then (h.get? b).bind Mq else none) else none
def xN (H:Hp):Prop:=∀b,H b=none∨∃o u,H b=some (.oI o u)
theorem EZ (vs:List Value):Mq { cls:=.type "list",data:=.seq vs.toArray }=some (.oI { cls:=.type "list",data:=.seq vs.toArray } (.lst (vs.map toV))):=by
 show (if (Value.type "list"==Value.type "list")=true then some (HO.oI { cls:=.type "list",data:=.seq vs.toArray } (.lst (vs.toArray.toList.map toV))) else some (HO.oI { cls:=.type "list",data:=.seq vs.toArray } (.tup (vs.toArray.toList.map toV))))=_;rw[ao (beq_self_eq_true _)]
theorem E1 (vs:List Value):Mq { cls:=.type "tuple",data:=.seq vs.toArray }=some (.oI { cls:=.type "tuple",data:=.seq vs.toArray } (.tup (vs.map toV))):=by
 show (if (Value.type "tuple"==Value.type "list")=true then some (HO.oI { cls:=.type "tuple",data:=.seq vs.toArray } (.lst (vs.toArray.toList.map toV))) else some (HO.oI { cls:=.type "tuple",data:=.seq vs.toArray } (.tup (vs.toArray.toList.map toV))))=_;rw[ag J9]
section
variable {P:Program} {w:World} {K:aP} {h:Heap} {A:List Addr}
theorem vT {b:Addr} {o:Obj} (hb:b∈A) (hk:K.lookup b=none) (e:h.get? b=some o):kg K h A b=Mq o:=by
 unfold kg;rw[ao hb,hk,ao (show (none:Option Obj).isNone=true from rfl),e]<;>rfl
theorem P4 {b:Addr} {u:HO} (q:kg K h A b=some u):b∈A∧K.lookup b=none:=by
 unfold kg at q;by_cases hb:b∈A
 ·rw[ao hb] at q;cases hk:K.lookup b with
  | none=>exact⟨hb,rfl⟩
  | some o =>
   rw[hk,ag (by simp)] at q;cases q
 ·rw[ag hb] at q;cases q
theorem vU (ar : ∀ a ∈ A, lC h A a) {b : Addr} {u : HO} (q : kg K h A b = some u) : K.lookup b = none ∧ ∃ vs : List Value, vs.length ≤ sizeLine ∧ (∀ u ∈ vs, xM A u) ∧
    ((h.get? b = some { cls := .type "list", data := .seq vs.toArray } ∧ u = .oI { cls := .type "list", data := .seq vs.toArray } (.lst (vs.map toV))) ∨
     (h.get? b = some { cls := .type "tuple", data := .seq vs.toArray } ∧ u = .oI { cls := .type "tuple", data := .seq vs.toArray } (.tup (vs.map toV)))) := by
  obtain ⟨hb, hk⟩ := P4 q
  obtain ⟨vs, h1, h2, h3⟩ := ar b hb
  refine ⟨hk, vs, h1, h2, ?_⟩
  rcases h3 with e | e
  · rw [vT hb hk e, EZ] at q
    exact .inl ⟨e, (bM q).symm⟩
  · rw [vT hb hk e, E1] at q
    exact .inr ⟨e, (bM q).symm⟩
theorem KB (ar:∀a∈A,lC h A a):xN (kg K h A):=fun b=>by
 cases q:kg K h A b with
 | none=>exact .inl rfl
 | some u =>
  obtain⟨_,vs,_,_,⟨_,e⟩ | ⟨_,e⟩⟩:=vU ar q
  ·exact .inr ⟨_,_,by rw[e]⟩
  ·exact .inr ⟨_,_,by rw[e]⟩
theorem P5 (ar:∀a∈A,lC h A a):jt P w (kg K h A) h:=fun b u q=>by
 obtain⟨_,vs,h1,h2,⟨e,rfl⟩ | ⟨e,rfl⟩⟩:=vU ar q
 ·exact⟨e,by rw[aF];exact h1,vs,_,mf h2,e⟩
 ·exact⟨e,by rw[aF];exact h1,vs,mf h2,_,e,rfl,_,rfl⟩
theorem vV {c c':Value} {vs us:List Value} (e:(some { cls:=c,data:=.seq vs.toArray }:Option Obj)=some { cls:=c',data:=.seq us.toArray }):c=c'∧vs=us:=by
 have e1:=bM e;have e2:c=c':=a7 Obj.cls e1;have e3:Data.seq vs.toArray=Data.seq us.toArray:=a7 Obj.data e1;injection e3 with e4
 refine⟨e2,?_⟩;have e5:=a7 Array.toList e4;simpa using e5
theorem Zm (KX:K.In h) (ar:∀a∈A,lC h A a) {a:Addr} {vs:List Value} (ha:a∈A) (e:h.get? a=some { cls:=.type "list",data:=.seq vs.toArray }):(∀u∈vs,xM A u)∧bU K (kg K h A) a (vs.map toV):=by
 obtain⟨us,h1,h2,h3⟩:=ar a ha;have hu:us=vs:=by
  rcases h3 with q | q
  ·rw[e] at q;exact(vV q).2.symm
  ·rw[e] at q;exact absurd (Value.type.inj (vV q).1) J9
 subst hu;refine⟨h2,?_⟩;cases hk:K.lookup a with
 | none=>exact .inl (.inr ⟨_,by rw[vT ha hk e,EZ]⟩)
 | some o =>
  have e2:=KX a o hk;rw[e] at e2;obtain rfl:=bM e2;exact .inr ⟨_,us.toArray,_,hk,rfl,rfl,rfl,by rw[cg];exact h1,by simpa using mf h2⟩
theorem Zn (KX:K.In h) (ar:∀a∈A,lC h A a) {a:Addr} {vs:List Value} (ha:a∈A) (e:h.get? a=some { cls:=.type "tuple",data:=.seq vs.toArray }):(∀u∈vs,xM A u)∧j3 K (kg K h A) a (vs.map toV):=by
 obtain⟨us,h1,h2,h3⟩:=ar a ha;have hu:us=vs:=by
  rcases h3 with q | q
  ·rw[e] at q;exact absurd (Value.type.inj (vV q).1) J9
  ·rw[e] at q;exact(vV q).2.symm
 subst hu;refine⟨h2,?_⟩;cases hk:K.lookup a with
 | none=>exact .inl (.inr ⟨_,by rw[vT ha hk e,E1]⟩)
 | some o =>
  have e2:=KX a o hk;rw[e] at e2;obtain rfl:=bM e2;exact .inr ⟨_,us.toArray,_,hk,rfl,rfl,by rw[cg];exact h1,by simpa using mf h2⟩
mutual
theorem Tj {Pm:Params} (KX:K.In h) (ar:∀a∈A,lC h A a):∀(d:WData) (v:Value),Well Pm h v d→vS d=true→xM A v→Dw K (kg K h A) (toV v) d
 | .none,_,x,_,_=>by
  cases x;exact .fU
 | .bool b,_,x,_,_=>by
  cases x;exact .bl b
 | .int i,_,x,_,_=>by
  cases x;exact .int i
 | .str s,_,x,_,_=>by
  cases x;exact .str s
 | .bytes b,_,x,_,_=>by
  cases x;have z:=Dw.tN (K:=K) (H:=kg K h A) b.toArray;exact z
 | .list ds,_,x,p,hu=>by
  obtain⟨a,vs,rfl,ho,jP⟩:=Bj x;obtain⟨h2,hs⟩:=Zm KX ar hu ho;exact .lst hs (An KX ar ds _ jP p h2)
 | .tuple ds,_,x,p,hu=>by
  obtain⟨a,vs,rfl,ho,jP⟩:=yK x;obtain⟨h2,hs⟩:=Zn KX ar hu ho;exact .tup hs (An KX ar ds _ jP p h2)
 | .float _,_,_,p,_=>Bool.noConfusion (show false=true from p)
 | .dict _,_,_,p,_=>Bool.noConfusion (show false=true from p)
 | .bytearray _,_,_,p,_=>Bool.noConfusion (show false=true from p)
 | .set _,_,_,p,_=>Bool.noConfusion (show false=true from p)
 | .frozenset _,_,_,p,_=>Bool.noConfusion (show false=true from p)
 | .obj _ _,_,_,p,_=>Bool.noConfusion (show false=true from p)
theorem An {Pm:Params} (KX:K.In h) (ar:∀a∈A,lC h A a):∀(ds:List WData) (vs:List Value),WellAll Pm h vs ds→qE ds=true→(∀u∈vs,xM A u)→kJ K (kg K h A) (vs.map toV) ds
 | [],_,x,_,_=>by
  cases x;exact .nil
 | d::ds,_,x,p,hu=>by
  obtain⟨v,vs,rfl,x1,x2⟩:=Bk x;have q:vS d=true∧qE ds=true:=j6.mp p;exact .cons (Tj KX ar d v x1 q.1 (hu _ (fA ..))) (An KX ar ds vs x2 q.2 fun u m=>hu u (dv _ m))
end
end
theorem KC {P:Program} {w:World} {K:aP} {mg mb:Str→Option Value} {CX:vK} {k:Nat} {fa:Addr} {fd:FuncData} {ps:List Str} {sp:Sp} {s₁:Shared} {vals:List Value} {ds:List WData} {R:PySem.W.WRecords} {cl:Str→Option Addr} {d0:WData}
  (KX:K.In s₁.heap) (Zo:s₁.heap.Ns mainGlobals mg) (hb:s₁.heap.Ns builtinsNs mb) (hbb:∀x:Str,x≠"__name__"→mb x=bootBuiltins x) (Zp:s₁.heap.NoLimit) (hg:s₁.gens=#[])
  (P6:WellAll w.params s₁.heap vals ds) (gG:qE ds=true) (hwt:∀d∈ds,d.weight≤1048576) (hr:fj k callerA)
  (F:∀base:Heap,K.In base→base.Ns mainGlobals mg→jy P w K mg base CX k fa fd ps sp) (Wz:∀(s:Shared) (us:List Value),us.length=ps.length→BindsTo s fd ⟨us,[]⟩ (ps.zip us)) (hlen:ds.length=ps.length)
  (zv:∀(H:Hp) (xs:List V),xN H→kJ K H xs ds→sp xs H (fun v H'=>Dw K H' v d0) fun _ _ _=>False)
  (P7:∀H e s',CX [] H s₁ (fun _ _ _=>False) e s'→False) :
  codeAny (model P w) callerA (.call (.ref fa) ⟨vals,[]⟩) (fun r s'=>∃u as,r=.ok (.ret u)∧ReadsW R cl s'.heap u d0 as∧OldK s₁.heap s'.heap∧s'.os=s₁.os∧AllBare s'.gens) s₁:=by
 obtain⟨A,ho,ar⟩:=sR ds vals P6 gG hwt;have hO:xN (kg K s₁.heap A):=KB ar;have dr:jt P w (kg K s₁.heap A) s₁.heap:=P5 ar;have hS:=An KX ar ds vals P6 gG ho;have hV:=mf ho;have hK:∀b u,kg K s₁.heap A b=some u→K.lookup b=none:=fun b u q=>(vU ar q).1;have Nr:∀{b:Addr} {o:Obj} {es:Array DictEntry} {ep:Nat},s₁.heap.get? b=some o→o.data=.dict es ep→kg K s₁.heap A b=none:=fun {b o es ep} e d=>by
  cases q:kg K s₁.heap A b with
  | none=>rfl
  | some u =>
   obtain⟨_,vs,_,_,⟨e2,_⟩ | ⟨e2,_⟩⟩:=vU ar q
   ·rw[e2] at e;cases e;have d':Data.seq vs.toArray _=Data.dict es ep:=d;cases d'
   ·rw[e2] at e;cases e;have d':Data.seq vs.toArray _=Data.dict es ep:=d;cases d'
 generalize kg K s₁.heap A=H at hO dr hS hK Nr;have Ia:∀{b:Addr} {o:Obj},s₁.heap.get? b=some o→H b=none→(vC s₁.heap H).get? b=some o:=fun e n=>Nc e n;have Tl:∀{b:Addr} {m:Str→Option Value},s₁.heap.Ns b m→(vC s₁.heap H).Ns b m:=fun {b m} ⟨o,es,ep,e,d,r⟩=>⟨o,es,ep,Ia e (Nr e d),d,r⟩;have nK:∀b o,K.lookup b=some o→H b=none:=fun b o e=>by
  cases q:H b with
  | none=>rfl
  | some u =>
   rw[hK b u q] at e;cases e
 have Zq:K.In (vC s₁.heap H):=fun b o e=>Ia (KX b o e) (nK b o e);have hM:Mod K mg (vC s₁.heap H):=⟨Zq,Tl Zo,⟨mb,Tl hb,hbb⟩,let ⟨mc,h1,h2⟩:=Zp;⟨mc,Tl h1,h2⟩⟩;have e0:A0 P w K mg (vC s₁.heap H) callerA [] s₁ H:=⟨rfl,hM,fun b o e=>Pe e,zm (Kc _ _),trivial,fun b hb=>absurd (show b∈([]:List Addr) from hb) (by simp),dr,.of_eq hg⟩;have hl:vals.length=ps.length:=by rw[lQ P6];exact hlen
 refine codeAny_mono ((F _ Zq (Tl Zo)).run callerA [] s₁ H ⟨vals,[]⟩ vals (vals.map toV) _ _ hr e0 (Wz s₁ vals hl) hV (zv H _ hO hS)) fun r s' x=>?_;cases r with
 | error e=>exact(P7 H e s' x).elim
 | ok fl =>
  cases fl with
  | next=>exact False.elim x
  | brk=>exact False.elim x
  | cont=>exact False.elim x
  | ret u =>
   obtain⟨v,H',os,bare,un,Vw,r',q⟩:=x;have kept:∀b o,s₁.heap.get? b=some o→s'.heap.get? b=some o:=fun b o e=>by
    cases q2:H b with
    | none=>exact un.keep b o e q2 (by intro z;exact absurd (show b∈([]:List Addr) from z) (by simp)) (by simp)
    | some u2 =>
     rcases hO b with z | ⟨ob,u3,z⟩
     ·rw[q2] at z;cases z
     ·have z2:=un.ud b ob _ z;obtain⟨e1,_⟩:=dr b _ z;obtain⟨e2,_⟩:=Vw b _ z2;rw[e] at e1;cases e1;exact e2
   have KX':K.In s'.heap:=fun b o e=>kept b o (KX b o e);obtain⟨as,Zr⟩:=Dw.reads (R:=R) (cl:=cl) Vw KX' d0 v u q r';exact⟨u,as,rfl,Zr,OldK.of_keep kept,os,bare⟩
theorem zx {ds:List WData} (h:WData.layableAll ds=true):∀d∈ds,d.weight≤1048576:=fun d hd =>
 (PySem.W.layableW_iff.mp (nq.mp h d hd)).2.2
theorem yL:∀(cs:List Codec) (a:Codec.denoteAll cs),(Codec.encAll cs a).length=cs.length
 | [],_=>rfl
 | c::cs,a=>by
  show (Codec.encAll cs a.2).length+1=cs.length+1;rw[yL cs a.2]
theorem KG {r:OpenSpec} {k:Nat} {q:Program} {loose:List Str} {XP:(Str→Option Value)→Heap→Prop} {YP:World→Heap→Prop} {d:DefRec} {K:Params→aP} {CX:World→vK} {ps:List Str} {sp:World→Sp}
  (KH:r.wellSaid=true) (Zs:d.params.defaults=[]) (hlen:r.args.length=ps.length) (hr:fj k callerA)
  (hY:∀(w:World) (h:Heap),YP w h→(K w.params).In h)
  (F:∀(w:World) (mg:Str→Option Value) (fa:Addr) (h:Heap),YP w h→(K w.params).In h→h.Ns mainGlobals mg→mg d.name=some (.ref fa) →
   ∃fd:FuncData,(∀(s:Shared) (us:List Value),us.length=ps.length→BindsTo s fd ⟨us,[]⟩ (ps.zip us)) ∧
    ∀base:Heap,(K w.params).In base→base.Ns mainGlobals mg→jy r.prog w (K w.params) mg base (CX w) k fa fd ps (sp w))
  (zv:∀(w:World) (H:Hp) (xs:List V) (a:Codec.denoteAll r.args),xN H→Codec.withinAll r.args a=true→Codec.app r.args r.asked a=true→kJ (K w.params) H xs (Codec.encAll r.args a) →
   sp w xs H (fun v H'=>Dw (K w.params) H' v (r.ret.enc (Codec.app r.args r.f a))) fun _ _ _=>False)
  (P7:∀(w:World) (H:Hp) (s:Shared) (e:Value) (s':Shared),CX w [] H s (fun _ _ _=>False) e s'→False) :
  PySem.W.WalkOS q loose XP YP r d [] (fun f vs=>PySem.call f vs):=by
 intro w oJ s₁ mg mb G Y fa o pm cd doc dV kV ho hd AQ hD P8 hg args vals as Zt Zu Zr P6 hlo;obtain⟨a,e1,e2⟩:=PySem.W.os_pre_some Zt;obtain⟨e3,Tn⟩:=Codec.encAll_of_decAll r.args args a e1;subst e3;have KX:=hY w _ Y;obtain⟨fd,hb,hF⟩:=F w mg fa _ Y KX G.T.g P8;refine PySem.W.enter_call (codeAny_mono (KC (R:=[]) (cl:=classAt oJ.heap) (d0:=r.ret.enc (Codec.app r.args r.f a)) KX G.T.g G.T.b G.T.builtins G.T.nolimit hg P6 (Bi _ _) (zx Zu) hr hF hb (by rw[yL];exact hlen)
  (fun H xs hO hS=>zv w H xs a hO Tn e2 hS) fun H e s'=>P7 w H s₁ e s') fun r' s' hq=>?_)
 obtain⟨u,as',rfl,h1,h2,h3,h4⟩:=hq;exact⟨.inl ⟨u,_,as',rfl,fun _=>rfl,h1,(OpenSpec.post_iff KH Tn _ _).mpr rfl,fun z=>Bool.noConfusion (show false=true from z)⟩,h2,h3,h4⟩
theorem Ic {r:OpenSpec} {k:Nat} {q:Program} {loose:List Str} {XP:(Str→Option Value)→Heap→Prop} {YP:World→Heap→Prop} {d:DefRec} {K:Params→aP} {CX:vK} {ps:List Str} {sp:aP→Sp}
  (KH:r.wellSaid=true) (Zs:d.params.defaults=[]) (hlen:r.args.length=ps.length) (hr:fj k callerA)
  (hY:∀(w:World) (h:Heap),YP w h→(K w.params).In h)
  (F:∀(w:World) (mg:Str→Option Value) (fa:Addr) (h:Heap),YP w h→(K w.params).In h→h.Ns mainGlobals mg→mg d.name=some (.ref fa) →
   ∃fd:FuncData,(∀(s:Shared) (us:List Value),us.length=ps.length→BindsTo s fd ⟨us,[]⟩ (ps.zip us)) ∧
    ∀base:Heap,(K w.params).In base→base.Ns mainGlobals mg→jy r.prog w (K w.params) mg base CX k fa fd ps (sp (K w.params)))
  (zv:∀(K:aP) (H:Hp) (xs:List V) (a:Codec.denoteAll r.args),xN H→Codec.withinAll r.args a=true→Codec.app r.args r.asked a=true→kJ K H xs (Codec.encAll r.args a) →
   sp K xs H (fun v H'=>Dw K H' v (r.ret.enc (Codec.app r.args r.f a))) fun _ _ _=>False)
  (P7:∀(H:Hp) (s:Shared) (e:Value) (s':Shared),CX [] H s (fun _ _ _=>False) e s'→False) :
  PySem.W.WalkOS q loose XP YP r d [] (fun f vs=>PySem.call f vs) :=
 KG (K:=K) (CX:=fun _=>CX) (sp:=fun w=>sp (K w.params)) KH Zs hlen hr hY F (fun w H xs a h1 h2 h3 h4=>zv (K w.params) H xs a h1 h2 h3 h4) fun _ H s e s'=>P7 H s e s'
end L2
namespace L2
open PySem PySem.Spec PyProof.Rows
def inClass (s:Stmt) (j:Nat):Stmt:=match s with
 | .ClassDef _ _ _ body _ _ _ _ _ _ _=>body.getD j (.Pass ⟨0,0,0,0⟩)
 | _=>.Pass ⟨0,0,0,0⟩
def jz (s:Stmt):Arguments:=match s with
 | .FunctionDef _ a _ _ _ _ _ _ _ _=>a
 | _=>{ posonlyargs:=[],args:=[],vararg:=none,kwonlyargs:=[],kw_defaults:=[],kwarg:=none,defaults:=[] }
def gN (s:Stmt):List Stmt:=match s with
 | .FunctionDef _ _ b _ _ _ _ _ _ _=>b
 | _=>[]
def ay (s:Stmt):Scope:=match s with
 | .FunctionDef _ _ _ _ _ _ sc _ _ _=>sc
 | _=>{ kind:=.function,names:=[],isGenerator:=false,isCoroutine:=false }
abbrev Bl:vK:=fun _ _ _ _ _ _=>False
abbrev E0:XK:=fun _ _ _=>False
theorem qb {X:Cx}:Passes Bl X E0:=fun _ _ _ _ _ _ _ h=>h.elim
structure xO (K:aP) (x qual:Str) (st:Stmt) (f:Addr) (fd:FuncData):Prop where
 ex:∃(oc:Value) (od:Option Addr) (kV doc pm:Value) (an:Option Addr) (bw ct:Value) (ni:Array (Option Value)),
  fd=PySem.W.fnOf x qual (jz st) (gN st) (ay st) .none kV doc pm an bw ct∧K.lookup f=some ⟨oc,od,.func fd,ni⟩∧PySem.W.codeIn K bw qual=true
 kp:PySem.W.keepIn K (.ref f)=true
section
variable {P:Program} {w:World} {K:aP} {mg:Str→Option Value} {base:Heap}
theorem xO.ok {x qual:Str} {st:Stmt} {f:Addr} {fd:FuncData} {N ps:List Str} {k:Nat} {sp:Sp} (F:xO K x qual st f fd) (S:aD N ps (ay st)) (len:∀vs H Q E,sp vs H Q E→vs.length=ps.length)
  (pU:∀(bw:Value) (A:Around) (outer:List Env) (s:Shared) (H:Hp) (vs:List V) (Q:VK) (E:XK),fj k (A.deeper (envOfC qual (ay st) s.heap.objs.size f bw))→sp vs H Q E →
   ∃t,qN (vN Bl P w K mg base N qual (ay st) f bw A outer s H E).vE (gN st) t∧t { nx:=fun _ H'=>Q .fU H',rt:=Q } (start N vs) H):jy P w K mg base Bl (k+1) f fd ps sp:=by
 obtain⟨oc,od,kV,doc,pm,an,bw,ct,ni,rfl,lk,AQ⟩:=F.ex;refine PL lk AQ S len fun A outer s H vs Q E hr zv=>?_;obtain⟨t,h,q⟩:=pU bw A outer s H vs Q E hr zv;exact⟨t,h.vE,q⟩
theorem xO.binds {x qual:Str} {st:Stmt} {f:Addr} {fd:FuncData} {ps:List Str} (F:xO K x qual st f fd)
  (h:∀(kV doc pm:Value) (an:Option Addr) (bw ct:Value) (us:List Value),us.length=ps.length→bindArgs (PySem.W.fnOf x qual (jz st) (gN st) (ay st) .none kV doc pm an bw ct) ⟨us,[]⟩=pure (ps.zip us)):Binds K fd ps []:=by
 obtain⟨oc,od,kV,doc,pm,an,bw,ct,ni,rfl,lk,AQ⟩:=F.ex;exact .all (h kV doc pm an bw ct)
theorem Ao {x qual:Str} {st:Stmt} {f:Addr} {oc:Value} {od an:Option Addr} {ni:Array (Option Value)} {kV doc pm bw ct:Value} (l:K.lookup f=some ⟨oc,od,.func (PySem.W.fnOf x qual (jz st) (gN st) (ay st) .none kV doc pm an bw ct),ni⟩)
 (c:PySem.W.codeIn K bw qual=true) (k:PySem.W.keepIn K (.ref f)=true):xO K x qual st f (PySem.W.fnOf x qual (jz st) (gN st) (ay st) .none kV doc pm an bw ct):=⟨⟨oc,od,kV,doc,pm,an,bw,ct,ni,rfl,l,c⟩,k⟩
end
section
variable {X:Cx}
theorem pv (i:Nat) {x:Str} {pos:Pos} (hN:X.N[i]?=some x:=by rfl) (hv:Pg X.env.scope x:=by first | exact Or.inl rfl | exact Or.inr (Or.inl rfl) | exact Or.inr (Or.inr rfl)) (hd:(x==("__debug__":Str))=false:=by decide)
 (AQ:(x==("__classdict__":Str))=false:=by decide):PE X (.Name x pos) (Ve i):=SD hN hv hd AQ
end
theorem aK {c A B:Prop} [Decidable c] (h1:c→A) (h2:¬c→B):if c then A else B:=by
 by_cases h:c
 ·rw[ao h];exact h1 h
 ·rw[ag h];exact h2 h
def aI (H H':Hp):Prop:=∀b o,H b=some o→H' b=some o
theorem aI.refl (H:Hp):aI H H:=fun _ _ h=>h
theorem aI.trans {H H1 H2:Hp} (a:aI H H1) (b:aI H1 H2):aI H H2:=fun c o h=>b c o (a c o h)
theorem aI.free {H H':Hp} (e:aI H H') {l:Addr} (h:H' l=Option.none):H l=Option.none:=by
 cases q:H l with
 | none=>rfl
 | some o =>
  rw[e l o q] at h;cases h
theorem aI.seq {K:aP} {H H':Hp} {a:Addr} {xs:List V} (e:aI H H') (h:bU K H a xs):bU K H' a xs:=by
 rcases h with (h | ⟨o,h⟩) | h
 ·exact .inl (.inl (e _ _ h))
 ·exact .inl (.inr ⟨o,e _ _ h⟩)
 ·exact .inr h
theorem aI.made {H H1:Hp} {x dx C:Addr} (nx:H x=Option.none) (nd:H dx=Option.none) (k:∀b o,(upd (upd H dx (.own x)) x (.ins C dx [])) b=some o→b≠x→H1 b=some o):aI H H1:=fun b o e =>
 k b o (by rw[b7 (da e nx),b7 (da e nd)];exact e) (da e nx)
end L2
end
namespace G
open PySem PySem.Spec PyProof.Rows L2
def top (i:Nat):Stmt:=PySem.Challenge.pw_bitfloats_s01_answers.main.body.getD i (.Pass ⟨0,0,0,0⟩)
def Zv (K:aP):Str×Nat→Prop | (n,i)=>∃(f:Addr) (oc:Value) (od an:Option Addr) (ni:Array (Option Value)) (kV doc pm bw ct:Value),PySem.W.nsIn K mainGlobals n=some (some (.ref f))∧K.lookup f=some ⟨oc,od,.func (PySem.W.fnOf n n (jz (top i)) (gN (top i)) (ay (top i)) .none kV doc pm an bw ct),ni⟩∧PySem.W.codeIn K bw n=true∧PySem.W.keepIn K (.ref f)=true
def WB (K:aP):Str×Int→Prop | (n,i)=>∃t:Tok,PySem.W.nsIn K mainGlobals n=some (some (.int i t))
def zy (K:aP) (a:Addr) (xs:List V):Prop:=∃(o:Obj) (bq:Array Value) (n:Nat),K.lookup a=some o∧o.cls=.type "tuple"∧o.data=.seq bq n∧bq.size≤sizeLine∧Vals xs bq.toList
def WC (K:aP):Str×List Int→Prop | (n,l)=>∃a:Addr,PySem.W.nsIn K mainGlobals n=some (some (.ref a))∧zy K a (l.map V.int)
def Zw (K:aP) (x:Str):Prop:=PySem.W.nsIn K mainGlobals x=some none
def zA (K:aP) (C:Addr) (m q:Str) (i j:Nat):Prop:=∃(f:Addr) (oc:Value) (od an:Option Addr) (ni:Array (Option Value)) (kV doc pm bw ct:Value),PySem.W.findIn K (.ref C) m=some (some (.ref f))∧PySem.W.isFn K (.ref f)=true ∧
 K.lookup f=some ⟨oc,od,.func (PySem.W.fnOf m q (jz (inClass (top i) j)) (gN (inClass (top i) j)) (ay (inClass (top i) j)) .none kV doc pm an bw ct),ni⟩∧PySem.W.codeIn K bw q=true∧PySem.W.keepIn K (.ref f)=true
structure Qa (K:aP) (x:Str) (C:Addr):Prop where
 at_:PySem.W.nsIn K mainGlobals x=some (some (.ref C))
 cl:zu K C
 Zx:PySem.W.makesIn K C=true
 kp:PySem.W.keepIn K (.ref C)=true
theorem To {K:aP} {n:Str} {i:Nat} {f:Addr} {oc:Value} {od an:Option Addr} {ni:Array (Option Value)} {kV doc pm bw ct:Value} (a:PySem.W.nsIn K mainGlobals n=some (some (.ref f)))
 (l:K.lookup f=some ⟨oc,od,.func (PySem.W.fnOf n n (jz (top i)) (gN (top i)) (ay (top i)) .none kV doc pm an bw ct),ni⟩) (c:PySem.W.codeIn K bw n=true) (k:PySem.W.keepIn K (.ref f)=true):Zv K (n,i):=⟨f,oc,od,an,ni,kV,doc,pm,bw,ct,a,l,c,k⟩
theorem Tp {K:aP} {n:Str} {i:Int} {t:Tok} (a:PySem.W.nsIn K mainGlobals n=some (some (.int i t))):WB K (n,i):=⟨t,a⟩
theorem Tq {K:aP} {a:Addr} {xs:List V} {o:Obj} {bq:Array Value} {n:Nat} (l:K.lookup a=some o) (c:o.cls=.type "tuple") (d:o.data=.seq bq n) (s:bq.size≤sizeLine) (v:Vals xs bq.toList):zy K a xs:=⟨o,bq,n,l,c,d,s,v⟩
theorem qc {K:aP} {n:Str} {xs:List Int} {a:Addr} {o:Obj} {bq:Array Value} {m:Nat} (e:PySem.W.nsIn K mainGlobals n=some (some (.ref a))) (l:K.lookup a=some o) (c:o.cls=.type "tuple") (d:o.data=.seq bq m) (s:bq.size≤sizeLine) (v:Vals (xs.map V.int) bq.toList):WC K (n,xs):=⟨a,e,o,bq,m,l,c,d,s,v⟩
theorem vX {K:aP} {C:Addr} {m q:Str} {i j:Nat} {f:Addr} {oc:Value} {od an:Option Addr} {ni:Array (Option Value)} {kV doc pm bw ct:Value} (a:PySem.W.findIn K (.ref C) m=some (some (.ref f))) (i':PySem.W.isFn K (.ref f)=true)
 (l:K.lookup f=some ⟨oc,od,.func (PySem.W.fnOf m q (jz (inClass (top i) j)) (gN (inClass (top i) j)) (ay (inClass (top i) j)) .none kV doc pm an bw ct),ni⟩) (c:PySem.W.codeIn K bw q=true) (k:PySem.W.keepIn K (.ref f)=true):zA K C m q i j:=⟨f,oc,od,an,ni,kV,doc,pm,bw,ct,a,i',l,c,k⟩
theorem Mr {K:aP} {x:Str} {C:Addr} {P:Addr→Prop} (a:PySem.W.nsIn K mainGlobals x=some (some (.ref C))) (cl:zu K C) (m:PySem.W.makesIn K C=true) (k:PySem.W.keepIn K (.ref C)=true) (r:P C):∃C,Qa K x C∧P C:=⟨C,⟨a,cl,m,k⟩,r⟩
theorem Tr {K:aP} {C:Addr} (a:PySem.W.nsIn K mainGlobals "NoNumber"=some (some (.ref C))) (q:PySem.W.excIn K C [.type "Exception",.type "BaseException",.type "object"] "Exception.__new__"=true):∃C,PySem.W.nsIn K mainGlobals "NoNumber"=some (some (.ref C))∧PySem.W.excIn K C [.type "Exception",.type "BaseException",.type "object"] "Exception.__new__"=true:=⟨C,a,q⟩
def Bm {A:Type} (l:List A) (P:A→Prop):Prop:=∀(i:Nat) (a:A),l[i]?=some a→P a
theorem sT {A:Type} {P:A→Prop}:Bm [] P:=fun i a e=>by simp at e
theorem g5 {A:Type} {P:A→Prop} {a:A} {l:List A} (h:P a) (r:Bm l P):Bm (a::l) P:=fun i b e=>by
 cases i with
 | zero =>
  obtain rfl:a=b:=by simpa using e
  exact h
 | succ i=>exact r i b (by simpa using e)
noncomputable def KI:List (Str×Nat):=(("byte_count":Str),5)::(("least_power":Str),6)::(("sign_bit":Str),7)::(("infinity_bits":Str),8)::(("nan_bits":Str),9)::(("is_negative":Str),10)::(("without_sign":Str),11)::(("with_sign":Str),12)::(("is_nan":Str),13)::(("is_infinite":Str),14)::(("is_zero":Str),15)::(("bits_of_row":Str),16)::(("row_of_bits":Str),17)::(("turned":Str),25)::(("whole_quotient":Str),26)::(("goes_outward":Str),27)::(("leading_power":Str),28)::(("rounded":Str),29)::(("beyond_greatest":Str),30)::(("no_number":Str),33)::(("infinity":Str),34)::(("finite":Str),35)::(("whole":Str),36)::(("taken_apart":Str),37)::(("packed":Str),38)::(("negated":Str),39)::(("times_power":Str),40)::(("is_nothing":Str),41)::(("times":Str),42)::(("plus":Str),43)::(("counted":Str),44)::(("whole_size":Str),45)::(("whole_value":Str),46)::(("nearest_whole":Str),47)::(("operation":Str),52)::(("added":Str),53)::(("subtracted":Str),54)::(("multiplied":Str),55)::(("divided":Str),56)::(("rest":Str),57)::(("exact_rest":Str),58)::(("lesser":Str),59)::(("greater":Str),60)::(("the_number":Str),61)::(("signed":Str),62)::(("whole_number":Str),63)::(("fused":Str),64)::(("scaled":Str),65)::(("converted":Str),66)::(("held_whole":Str),67)::(("from_whole":Str),68)::(("place":Str),69)::(("compared":Str),70)::(("function":Str),85)::(("by_steps":Str),86)::(("root":Str),87)::(("floor_root":Str),88)::(("horner":Str),89)::(("whole_bits":Str),90)::(("power_of_two":Str),91)::(("held":Str),92)::(("logarithm":Str),93)::(("wave":Str),94)::(("beyond_quarters":Str),95)::(("turned_if":Str),96)::(("raised":Str),97)::(("raised_to_infinity":Str),98)::(("is_whole":Str),99)::(("is_odd":Str),100)::(("exact_product":Str),106)::(("exact_sum":Str),107)::(("sum_of_numbers":Str),108)::(("sum_of_products":Str),109)::(("empty_lanes":Str),110)::(("lanes_together":Str),111)::(("spelled":Str),123)::(("told":Str),124)::(("told_size":Str),125)::(("shortest":Str),126)::(("digits_between":Str),127)::(("nearer":Str),128)::(("spelled_digits":Str),129)::(("read":Str),130)::(("read_digits":Str),131)::(("read_exponent":Str),132)::(("end_of_digits":Str),133)::(("counted_digits":Str),134)::(("power_of_ten":Str),135)::(("answers":Str),145)::(("taken_rows":Str),146)::(("answered":Str),147)::(("all_fit":Str),148)::(("with_count":Str),149)::(("number_answer":Str),150)::(("answer_op":Str),151)::(("answer_fma":Str),152)::(("answer_scale":Str),153)::(("answer_conv":Str),154)::(("answer_fn":Str),155)::(("answer_cmp":Str),156)::(("answer_text":Str),157)::(("answer_read":Str),158)::(("answer_clear":Str),159)::(("answer_add":Str),160)::(("answer_get":Str),161)::(("can_be_summed":Str),162)::(("numbers_in_row":Str),163)::(("answer_sum":Str),164)::(("answer_dot":Str),165)::(("answer_whole":Str),166)::(("answer_float":Str),167)::[]
noncomputable def Qb:List (Str×Int):=(("DOUBLE":Str),3)::(("LAST_KIND":Str),3)::(("NEAREST":Str),0)::(("DOWN":Str),1)::(("UP":Str),2)::(("TOWARD_ZERO":Str),3)::(("NEAREST_AWAY":Str),4)::(("LAST_MODE":Str),4)::(("LAST_OPERATION":Str),10)::(("LAST_HOW":Str),1)::(("UNORDERED":Str),2)::(("LAST_FUNCTION":Str),5)::(("ROOT":Str),4)::(("POWER":Str),5)::(("ONE":Str),4607182418800017408)::(("TWO_TO_THE_52":Str),4841369599423283200)::(("ABOVE_F":Str),4609047870845172685)::(("LEAST_EXPONENT":Str),-1200)::(("GREATEST_EXPONENT":Str),1100)::(("COSINE_FIRST":Str),4607182418800017408)::(("LAST_ORDER":Str),4)::(("EXACT_ORDER":Str),4)::(("LONGEST_TEXT":Str),60)::(("MOST_EXPONENT_DIGITS":Str),3)::(("DIGIT_ZERO":Str),48)::(("DIGIT_NINE":Str),57)::(("PLUS":Str),43)::(("MINUS":Str),45)::(("POINT":Str),46)::(("BIG_E":Str),69)::(("SMALL_E":Str),101)::(("DONE":Str),0)::(("REFUSED":Str),-1)::(("NO_NUMBER":Str),-2)::(("GREATEST_SCALE":Str),5000)::(("MOST_NUMBERS":Str),64)::(("MOST_BITS":Str),48)::(("LAST_SIGN":Str),1)::[]
noncomputable def Qc:List (Str×List Int):=[(("EXPONENT_BITS":Str),[5,8,8,11]),(("FRACTION_BITS":Str),[10,7,23,52]),(("EXP2":Str),[4607182418800017408,4604418534313441775,4597823092348339599,4588159806095007936,4576698095722188407,4563791841266919217,4549814923676796807,4535121250368401607,4518847663812495396,4502282772472522692,4485106894419758794,4467162552695110437,4448496323602950534,4429314530977698041]),(("LOG2":Str),[4613679739648574206,4606838314010018813,4603373076224121854,4601097129459113689,4599447016227734185,4598396944171401773,4597164722873374560,4596098495862329342,4595283145795059469,4594639448373530622,4594118359984673937,4593687895663444501]),(("SINE":Str),[4618760256179416344,13854387181501922899,4635442875846732514,13858470148813536646,4631116052258809730,13848059183245068063,4615784187318865251,13828015527061444420,4592174923320472409]),(("COSINE_OTHERS":Str),[13849621347874784734,4634270120541903556,13859085942699900922,4633675496823044795,13851503584549554828,4620584609291582659,13833771785395049103,4598751787815720949]),(("LANES":Str),[1,2,4,8])]
noncomputable def Vx:List Str:=[("abs":Str),("all":Str),("enumerate":Str),("len":Str),("max":Str),("min":Str),("ord":Str),("range":Str),("reversed":Str),("sum":Str),("zip":Str)]
noncomputable def E3:List (List Int):=[[3,2],[2,3],[3,1],[3,1],[3,2],[2,2],[1,1],[2,1],[0,0],[1,2],[2,0],[3,1],[3,2],[4,1],[3,0]]
theorem Ts {K:aP} {a x0 x1 x2 x3 x4 x5 x6 x7 x8 x9 Qg WE WG WH WI:Addr} {o:Obj} {bq:Array Value} {m:Nat} (e:PySem.W.nsIn K mainGlobals "SHAPES"=some (some (.ref a))) (l:K.lookup a=some o) (c:o.cls=.type "tuple") (d:o.data=.seq bq m) (s:bq.size≤sizeLine) (v:Vals (List.map V.ref [x0,x1,x2,x3,x4,x5,x6,x7,x8,x9,Qg,WE,WG,WH,WI]) bq.toList)
 (r:∀(i:Nat) (x:Addr) (p:List Int),[x0,x1,x2,x3,x4,x5,x6,x7,x8,x9,Qg,WE,WG,WH,WI][i]?=some x→E3[i]?=some p→zy K x (p.map V.int)):∃(a:Addr) (ra:List Addr),PySem.W.nsIn K mainGlobals "SHAPES"=some (some (.ref a))∧zy K a (ra.map V.ref)∧ra.length=15∧∀(i:Nat) (x:Addr) (p:List Int),ra[i]?=some x→E3[i]?=some p→zy K x (p.map V.int):=⟨a,[x0,x1,x2,x3,x4,x5,x6,x7,x8,x9,Qg,WE,WG,WH,WI],e,⟨o,bq,m,l,c,d,s,v⟩,rfl,r⟩
structure Raw (K:aP):Prop where
 defs:Bm KI (Zv K)
 iy:Bm Qb (WB K)
 FZ:Bm Qc (WC K)
 oT:Bm Vx (Zw K)
 ex:∃C,Qa K "Exact" C∧(f9 K C "nan"∧f9 K C "infinite"∧f9 K C "negative"∧f9 K C "size"∧f9 K C "power")∧zA K C "__init__" "Exact.__init__" 32 0
 ac:∃C,Qa K "Accumulator" C∧f9 K C "total"∧zA K C "__init__" "Accumulator.__init__" 105 0∧zA K C "make_empty" "Accumulator.make_empty" 105 1∧zA K C "take" "Accumulator.take" 105 2∧zA K C "rounded_once" "Accumulator.rounded_once" 105 3
 no:∃C,PySem.W.nsIn K mainGlobals "NoNumber"=some (some (.ref C))∧PySem.W.excIn K C [.type "Exception",.type "BaseException",.type "object"] "Exception.__new__"=true
 sh:∃(a:Addr) (ra:List Addr),PySem.W.nsIn K mainGlobals "SHAPES"=some (some (.ref a))∧zy K a (ra.map V.ref)∧ra.length=15∧∀(i:Nat) (x:Addr) (p:List Int),ra[i]?=some x→E3[i]?=some p→zy K x (p.map V.int)
theorem Qh {K:aP}:∀(i:Nat) (x:Addr) (p:List Int),([]:List Addr)[i]?=some x→([]:List (List Int))[i]?=some p→zy K x (p.map V.int):=fun i x p e=>by simp at e
theorem NF {K:aP} {x:Addr} {ra:List Addr} {q:List Int} {ps:List (List Int)} (h:zy K x (q.map V.int)) (r:∀(i:Nat) (x:Addr) (p:List Int),ra[i]?=some x→ps[i]?=some p→zy K x (p.map V.int)) :
  ∀(i:Nat) (y:Addr) (p:List Int),(x::ra)[i]?=some y→(q::ps)[i]?=some p→zy K y (p.map V.int):=fun i y p e1 e2=>by
 cases i with
 | zero =>
  obtain rfl:x=y:=by simpa using e1
  obtain rfl:q=p:=by simpa using e2
  exact h
 | succ i=>exact r i y p (by simpa using e1) (by simpa using e2)
end G
namespace BF
open Lw
theorem oU {a b:Int}:(a:Rat)≤b↔a≤b:=Rat.intCast_le_intCast
theorem mz {a b:Int}:(a:Rat)<b↔a<b:=Rat.intCast_lt_intCast
theorem rz {a b:Int}:(a:Rat)=b↔a=b:=Rat.intCast_inj
theorem gK {q:Rat} {z:Int} (h1:(z:Rat)≤q) (h2:q<z+1):q.floor=z:=by
 have a:=zr.mpr h1;have b:q.floor<z+1:=FO.mpr (by rw[dH];exact h2);omega
theorem rC {q:Rat} {z:Int} (h1:(z:Rat)-1<q) (h2:q≤z):q.ceil=z:=by
 rw[Rat.ceil_eq_neg_floor_neg,gK (z:=-z)]
 ·omega
 ·rw[iF];grind
 ·rw[iF];grind
def vZ (m:Mode) (neg odd:Bool) (tr d:Int):Bool:=match m with
 | .down=>neg
 | .up=>!neg
 | .zero=>false
 | .near=>if tr=d then odd else decide (d<tr)
 | .away=>if tr=d then true else decide (d<tr)
def wq (m:Mode) (neg:Bool) (n d:Int):Int :=
 if n%d=0∨vZ m neg (decide (n/d%2=1)) (2*(n%d)) d=false then n/d else n/d+1
def bK (neg:Bool) (q:Rat):Rat:=if neg=true then -q else q
def eH (neg:Bool) (q:Int):Int:=if neg=true then -q else q
theorem KJ {n d:Int} (hd:0<d):∃f:Rat,(n:Rat)/d=(n/d:Int)+f∧0≤f∧f<1∧(f=0↔n%d=0)∧(2*f=1↔2*(n%d)=d)∧(1<2*f↔d<2*(n%d)):=by
 have qY:(0:Rat)<d:=eW.mpr hd;have iW:(d:Rat)≠0:=by grind
 have e:(n:Rat)=(n/d:Int)*d+((n%d:Int):Rat):=by
  rw[←bh,←dH,rz];have:=uT n d;rw[iJ] at this;omega
 have r0:=pK n (jw hd);have r1:=FP n hd;refine⟨((n%d:Int):Rat)/d,?_,?_,?_,?_,?_,?_⟩
 ·rw[e];generalize ((n/d:Int):Rat)=a;generalize ((n%d:Int):Rat)=r;rw[bQ,pL,bV,F5 _ iW];grind
 ·have:(0:Rat)≤((n%d:Int):Rat):=Gk.mpr r0;rw[bQ];exact pM this (cz (Rat.inv_pos.mpr qY))
 ·rw[iM qY,jf];exact mz.mpr r1
 ·constructor
  ·intro h;have:((n%d:Int):Rat)=((n%d:Int):Rat)/d*d:=(ve iW).symm;rw[h,bF] at this;exact jx.mp this
  ·intro h;rw[h];show (0:Rat)/d=0;rw[bQ,bF]
 ·have h:((n%d:Int):Rat)=((n%d:Int):Rat)/d*d:=(ve iW).symm;generalize ((n%d:Int):Rat)/d=f at h;constructor
  ·intro h2;have:((2*(n%d):Int):Rat)=d:=by rw[bh,h,←bV];show 2*f*_=_;rw[h2,jf]
   exact rz.mp this
  ·intro h2;have:((2*(n%d):Int):Rat)=d:=by rw[h2]
   rw[bh,h,←bV] at this;have h3:2*f*d=1*d:=by rw[jf];exact this
   have h4:(2*f-1)*(d:Rat)=0:=by grind
   rcases jg.mp h4 with h5 | h5
   ·grind
   ·exact absurd h5 iW
 ·rw[←mz,bh];show _↔(d:Rat)<2*_;have h:((n%d:Int):Rat)=((n%d:Int):Rat)/d*d:=(ve iW).symm;generalize ((n%d:Int):Rat)/d=f at h;rw[h,←bV];have:=zt (a:=1) (b:=2*f) qY;rw[jf] at this;exact this.symm
theorem rD (m:Mode) (neg:Bool) {n d:Int} (hd:0<d) (hn:0≤n):wholeBy m (bK neg ((n:Rat)/d))=eH neg (wq m neg n d):=by
 obtain⟨f,e,f0,f1,z,Zy,up⟩:=KJ (n:=n) hd;have a0:0≤n/d:=f7 hn (bo hd);have a0':(0:Rat)≤((n/d:Int):Rat):=Gk.mpr a0;rw[e];unfold wq;generalize n/d=a at *;generalize n%d=r at *;have c1:((a+1:Int):Rat)=(a:Rat)+1:=dH a 1;have c2:((-a:Int):Rat)=-(a:Rat):=iF a;have c3:((-a-1:Int):Rat)=-(a:Rat)-1:=by rw[nr,c2];rfl
 have c4:((-a+1:Int):Rat)=-(a:Rat)+1:=by rw[dH,c2];rfl
 have c5:((-(a+1):Int):Rat)=-(a:Rat)-1:=by rw[iF,c1];grind
 have fl:((a:Rat)+f).floor=a:=gK (by grind) (by grind);have cl:((a:Rat)+f).ceil=if r=0 then a else a+1:=by
  split
  ·next h=>exact rC (by grind) (by grind)
  ·next h=>exact rC (by rw[c1];grind) (by rw[c1];grind)
 have nfl:(-((a:Rat)+f)).floor=if r=0 then -a else -(a+1):=by
  split
  ·next h=>exact gK (by rw[c2];grind) (by rw[c2];grind)
  ·next h=>exact gK (by rw[c5];grind) (by rw[c5];grind)
 have ncl:(-((a:Rat)+f)).ceil=-a:=rC (by rw[c2];grind) (by rw[c2];grind);have Zz:((a:Rat)+f+1/2).floor=if 2*r<d then a else a+1:=by
  split
  ·next h=>exact gK (by grind) (by grind)
  ·next h=>exact gK (by rw[c1];grind) (by rw[c1];grind)
 have hf2:(-((a:Rat)+f)+1/2).floor=if d<2*r then -(a+1) else -a:=by
  split
  ·next h=>exact gK (by rw[c5];grind) (by rw[c5];grind)
  ·next h=>exact gK (by rw[c2];grind) (by rw[c2];grind)
 cases m<;>cases neg<;>simp only[wholeBy,bK,eH,vZ,nearestEven,nearestAway,aJ,aO,aM,fl,cl,nfl,ncl,Zz,hf2,vy,fR]
 ·
  by_cases h:2*r<d
  ·simp only[ao h];have hn:¬((a:Rat)=(a:Rat)+f+1/2):=by grind
   have h3:¬2*r=d:=by omega
   have h4:¬d<2*r:=by omega
   simp[hn,h3,h4]
  ·simp only[ag h,c1];have hr:¬r=0:=by omega
   have e1:((a:Rat)+1=(a:Rat)+f+1/2)↔2*r=d:=by rw[←Zy];constructor<;>intro q<;>grind
   simp only[e1,hr,false_or];by_cases h3:2*r=d
   ·simp only[h3,true_and,aJ];by_cases h5:a%2=1
    ·have:¬(a+1)%2≠0:=by omega
     simp[h5,this]
    ·have:(a+1)%2≠0:=by omega
     simp[h5,this]
   ·have h4:d<2*r:=by omega
    simp[h3,h4]
 ·
  by_cases h:d<2*r
  ·simp only[ao h,c5];have hn:¬(-(a:Rat)-1=-((a:Rat)+f)+1/2):=by grind
   have hr:¬r=0:=by omega
   have h3:¬2*r=d:=by omega
   simp[hn,hr,h3,h]
  ·simp only[ag h,c2];have e1:(-(a:Rat)=-((a:Rat)+f)+1/2)↔2*r=d:=by rw[←Zy];constructor<;>intro q<;>grind
   simp only[e1];by_cases h3:2*r=d
   ·have hr:¬r=0:=by omega
    simp only[h3,true_and,aJ,hr,false_or];by_cases h5:a%2=1
    ·have:(-a)%2≠0:=by omega
     simp[h5,this];omega
    ·have:¬(-a)%2≠0:=by omega
     simp only[this,aM,h5,k7,aJ]
   ·simp[h3,h]
 ·by_cases hr:r=0<;>simp[hr]
 ·by_cases hr:r=0<;>simp[hr]
 ·by_cases hr:r=0<;>simp[hr]
 ·by_cases hr:r=0<;>simp[hr]
 ·have:(0:Rat)≤(a:Rat)+f:=by grind
  simp[this]
 ·by_cases hx:(0:Rat)≤-((a:Rat)+f)
  ·have WK:f=0:=by grind
   have hr:r=0:=z.mp WK;simp[hx,hr]
  ·simp[hx]
 ·have:(0:Rat)≤(a:Rat)+f:=by grind
  simp only[this,aJ];by_cases h:2*r<d
  ·have h3:¬2*r=d:=by omega
   have h4:¬d<2*r:=by omega
   simp[h,h3,h4]
  ·have hr:¬r=0:=by omega
   by_cases h3:2*r=d
   ·simp[h3,hr]
   ·have h4:d<2*r:=by omega
    simp[h,h3,h4,hr]
 ·have e2:-(-((a:Rat)+f))=(a:Rat)+f:=nB _;by_cases hx:(0:Rat)≤-((a:Rat)+f)
  ·have WK:f=0:=by grind
   have hr:r=0:=z.mp WK;have h4:¬d<2*r:=by omega
   simp[hx,hr,h4,hd];omega
  ·simp only[hx,aM,e2,Zz];by_cases h:2*r<d
   ·have h3:¬2*r=d:=by omega
    have h4:¬d<2*r:=by omega
    simp[h,h3,h4]
   ·have hr:¬r=0:=by omega
    by_cases h3:2*r=d
    ·simp[h3,hr]
    ·have h4:d<2*r:=by omega
     simp[h,h3,h4,hr]
end BF
namespace BF
open Lw
theorem nO (k:Int):two k=(2:Rat)^k:=by
 unfold two;split
 ·next h =>
  obtain⟨n,rfl⟩:=aA h;rw[aN,nD]
 ·next h =>
  have e:k=-((-k).toNat:Int):=by omega
  conv=>rhs;rw[e,Rat.zpow_neg,nD]
  rw[bQ,jf]
theorem two_pos (k:Int):0<two k:=by rw[nO];exact Rat.zpow_pos J9
theorem jk (k:Int):two k≠0:=fun h=>by have:=two_pos k;rw[h] at this;exact Rat.lt_irrefl this
theorem aY (a b:Int):two (a+b)=two a*two b:=by
 rw[nO,nO,nO];exact Rat.zpow_add J9 a b
theorem de:two 0=1:=by rw[nO];exact Rat.zpow_zero 2
theorem jA:two 1=2:=by rw[nO];exact Rat.zpow_one 2
theorem dJ (n:Nat):two (n:Int)=((2^n:Nat):Rat):=by
 rw[nO,nD,GZ];rfl
theorem gc (n:Nat):two (n:Int)=((2^n:Int):Rat):=by
 rw[nO,nD,Rat.intCast_pow];rfl
theorem iS (k:Int):two (k+1)=2*two k:=by rw[aY,jA,e9]
theorem oV (k:Int):two (-k)*two k=1:=by rw[←aY];rw[show -k+k=0 by omega,de]
theorem gq {a b:Int} (h:a≤b):two a≤two b:=by
 obtain⟨n,e⟩:=aA (show 0≤b-a by omega);have:b=a+(n:Int):=by omega
 rw[this,aY];have h1:(1:Rat)≤two (n:Int):=by
  rw[dJ];have:1≤2^n:=pN;exact dP.mpr this
 have:=gu h1 (cz (two_pos a));rw[cC] at this;exact this
theorem Ap {a b:Int} (h:a<b):two a<two b:=by
 have h1:=gq (show a+1≤b by omega);rw[iS] at h1;have:=two_pos a;grind
theorem ee {a b:Int}:two a<two b↔a<b:=by
 constructor
 ·intro h;by_cases q:a<b
  ·exact q
  ·have:=gq (show b≤a by omega);grind
 ·exact Ap
theorem k8 (q:Rat) (u:Int):q/two u=q*two (-u):=by
 have h:=oV u;have e:(two u)⁻¹=two (-u):=pP (by rw[e9];exact h);rw[bQ,e]
theorem cB {a b:Rat} (k:Int):a*two k≤b*two k↔a≤b :=
 ⟨fun h=>J2 h (two_pos k),fun h=>jF h (cz (two_pos k))⟩
theorem cq {a b:Rat} (k:Int):a*two k<b*two k↔a<b:=zt (two_pos k)
theorem fo {a b:Rat} (k:Int):a*two k=b*two k↔a=b:=by
 constructor
 ·intro h;have h1:=(cB (a:=a) (b:=b) k).mp (by rw[h];exact Af);have h2:=(cB (a:=b) (b:=a) k).mp (by rw[h];exact Af);exact Rat.le_antisymm h1 h2
 ·intro h;rw[h]
theorem KL {q:Rat} {j k:Int} (h1:two j≤q) (h2:q<two (j+1)) (h3:two k≤q) (h4:q<two (k+1)):j=k:=by
 have a:two j<two (k+1):=by grind
 have b:two k<two (j+1):=by grind
 rw[ee] at a b;omega
theorem g6 {q:Rat} (hq:0<q):two (log2 q)≤q∧q<two (log2 q+1):=by
 have hs:size q=q:=by unfold size;rw[ag];intro h;grind
 have hn:0<q.num:=by
  have:q.num≠0:=fun h=>by rw[Rat.num_eq_zero] at h;grind
  have:=Hc.mpr (cz hq);omega
 have hd:q.den≠0:=q.den_nz;have hdp:0<q.den:=vz hd;have eq:q*(q.den:Rat)=((q.num.natAbs:Nat):Rat):=by
  have h1:q=(q.num:Rat)/(q.den:Rat):=by
   have:=Hd q.num q.den;rw[He] at this;exact this
  have WL:(q.den:Rat)≠0:=fun h=>hd (Hf.mp h);have h2:q*(q.den:Rat)=(q.num:Rat):=by
   conv=>lhs;arg 1;rw[h1]
   exact ve WL
  rw[h2,←bu];exact rz.mpr Kf
 have na:q.num.natAbs≠0:=by omega
 have a1:=Ah na;have a2:=@vJ q.num.natAbs;have b1:=Ah hd;have b2:=@vJ q.den;have A1:two (Nat.log2 q.num.natAbs:Int)≤q*(q.den:Rat):=by rw[eq,dJ];exact dP.mpr a1
 have A2:q*(q.den:Rat)<two ((Nat.log2 q.num.natAbs:Int)+1):=by rw[eq];exact(by rw[show ((Nat.log2 q.num.natAbs:Int)+1)=((Nat.log2 q.num.natAbs+1:Nat):Int) from rfl,dJ];exact Ai.mpr a2)
 have B1:two (Nat.log2 q.den:Int)≤(q.den:Rat):=by rw[dJ];exact dP.mpr b1
 have B2:(q.den:Rat)<two ((Nat.log2 q.den:Int)+1):=by rw[show ((Nat.log2 q.den:Int)+1)=((Nat.log2 q.den+1:Nat):Int) from rfl,dJ];exact Ai.mpr b2
 unfold log2;simp only[hs];generalize (Nat.log2 q.num.natAbs:Int)=a at *;generalize (Nat.log2 q.den:Int)=b at *;generalize (q.den:Rat)=D at *;clear eq;have L:two (a-b-1)<q:=by
  have h1:two (a-b-1)*two (b+1)=two a:=by rw[←aY];congr 1;omega
  have h2:q*D<q*two (b+1):=J3 B2 hq;have h3:two (a-b-1)*two (b+1)<q*two (b+1):=by grind
  exact(cq _).mp h3
 have U:q<two (a-b+1):=by
  have h1:two (a-b+1)*two b=two (a+1):=by rw[←aY];congr 1;omega
  have h2:q*two b≤q*D:=gu B1 (cz hq);have h3:q*two b<two (a-b+1)*two b:=by grind
  exact(cq _).mp h3
 split
 ·next h=>rw[show a-b-1+1=a-b by omega];exact⟨cz L,h⟩
 ·next h =>
  split
  ·next h2=>exact absurd U (dY.mpr h2)
  ·next h2=>exact⟨dY.mp h,U⟩
theorem Ie {q:Rat} {k:Int} (h1:two k≤q) (h2:q<two (k+1)):log2 q=k:=by
 have hq:0<q:=by have:=two_pos k;grind
 have ⟨a,b⟩:=g6 hq;exact KL a b h1 h2
theorem NG (q:Rat):log2 (-q)=log2 q:=by
 by_cases h0:q=0
 ·subst h0;rfl
 have hs:size (-q)=size q:=by
  unfold size;by_cases h:q<0
  ·rw[ao h,ag (by grind)]
  ·rw[ag h,ao (by grind),nB]
 unfold log2;rw[hs];simp only[Rat.neg_num,Rat.neg_den,Int.natAbs_neg]
end BF
namespace BF
open Lw
structure Ok (t:Fmt):Prop where
 e2:2≤t.e
 m1:1≤t.m
 mb:(t.m:Int)+2≤t.bias
def aU (t:Fmt):Int:=2^(t.e+t.m)
def bE (t:Fmt):Int:=(2^t.e-1)*2^t.m
def az (t:Fmt):Int:=t.leastExp-t.m
theorem aX (n:Nat):(0:Int)<2^n:=Ak J9
theorem bO (n:Nat):((2^n:Nat):Int)=2^n:=by rw[Int.natCast_pow];rfl
theorem gO {a b:Nat} (h:a≤b):(2:Int)^a≤2^b:=by
 rw[←bO,←bO];exact iV.mpr (fb J9 h)
theorem dX (t:Fmt):(t.sign:Int)=aU t:=bO _
theorem gh (t:Fmt) (h:Ok t):0<bE t:=by
 unfold bE;have h1:(2:Int)^1≤2^t.e:=gO (by have:=h.e2;omega);exact pS Kf (aX _)
theorem kK (t:Fmt) (neg:Bool) (field frac:Nat):(t.pack neg field frac:Int)=(if neg=true then aU t else 0)+field*2^t.m+frac:=by
 unfold Fmt.pack;rw[cJ,cJ,eR,bO];cases neg
 ·rfl
 ·simp only[aJ,dX]
theorem E4 (t:Fmt) (neg:Bool):(t.zero neg:Int)=if neg=true then aU t else 0:=by
 unfold Fmt.zero;rw[kK];simp
theorem rE (t:Fmt):(t.top:Int)=2^t.e-1:=by
 unfold Fmt.top;have:1≤2^t.e:=pN;rw[Al this,bO];rfl
theorem xQ (t:Fmt) (neg:Bool):(t.inf neg:Int)=(if neg=true then aU t else 0)+bE t:=by
 unfold Fmt.inf;rw[kK,rE];unfold bE;simp
theorem NH (t:Fmt) (h:Ok t) (m:Mode) (neg:Bool):(t.over m neg:Int)=(if neg=true then aU t else 0)+(if m.beyond neg=true then bE t else bE t-1):=by
 unfold Fmt.over;split
 ·rw[xQ]
 ·rw[kK];have h1:1≤t.top:=by
   have:=rE t;have h1:(2:Int)^1≤2^t.e:=gO (by have:=h.e2;omega);omega
  have h2:1≤2^t.m:=pN;rw[Al h1,rE,Al h2,bO];unfold bE;have e:((2:Int)^t.e-1-1)*2^t.m=(2^t.e-1)*2^t.m-2^t.m:=by rw[nH (2^t.e-1) 1,dc]
  show _+(2^t.e-1-1)*2^t.m+(2^t.m-1)=_;rw[e];omega
theorem Bo (t:Fmt) (h:Ok t):2*t.bias=2^t.e-2:=by
 unfold Fmt.bias;have:(2:Int)^t.e=2*2^(t.e-1):=by
  have:=h.e2;obtain⟨k,hk⟩:∃k,t.e=k+1:=⟨t.e-1,Kf⟩;rw[hk,gy,lz,iJ]
 rw[bO,this];omega
def bl (n:Int):Int:=if n=0 then 0 else (Nat.log2 n.natAbs:Int)+1
theorem oW {n:Int} (h:0<n):two (bl n-1)≤(n:Rat)∧(n:Rat)<two (bl n):=by
 have iW:n.natAbs≠0:=by omega
 have a1:=Ah iW;have a2:=@vJ n.natAbs;have e:(n:Rat)=((n.natAbs:Nat):Rat):=by rw[←bu];exact rz.mpr Kf
 unfold bl;rw[ag Kf,e];constructor
 ·rw[show ((Nat.log2 n.natAbs:Int)+1-1)=(Nat.log2 n.natAbs:Int) by omega,dJ];exact dP.mpr a1
 ·rw[show ((Nat.log2 n.natAbs:Int)+1)=((Nat.log2 n.natAbs+1:Nat):Int) from rfl,dJ];exact Ai.mpr a2
def lead (n d:Int):Int :=
 let p:=bl n-bl d
 if (if 0≤p then decide (n<d*2^p.toNat) else decide (n*2^(-p).toNat<d))=true then p-1 else p
theorem cW {k:Int} (h:0≤k):two k=((2^k.toNat:Int):Rat):=by
 obtain⟨n,rfl⟩:=aA h;rw[aN];exact gc n
theorem uO {n d:Int} (hn:0<n) (hd:0<d):two (lead n d)≤(n:Rat)/d∧(n:Rat)/d<two (lead n d+1):=by
 have ⟨n1,n2⟩:=oW hn;have ⟨d1,d2⟩:=oW hd;have qY:(0:Rat)<d:=eW.mpr hd;have Hr:(0:Rat)<n:=eW.mpr hn;have key:∀k:Int,(n:Rat)/d<two k↔(n:Rat)<two k*d:=fun k=>iM qY;have low:two (bl n-bl d-1)≤(n:Rat)/d:=by
  refine dY.mp fun h=>?_;rw[key] at h;have h1:two (bl n-bl d-1)*d<two (bl n-bl d-1)*two (bl d):=J3 d2 (two_pos _);rw[←aY,show bl n-bl d-1+bl d=bl n-1 by omega] at h1;grind
 have high:(n:Rat)/d<two (bl n-bl d+1):=by
  rw[key];have h1:two (bl n-bl d+1)*two (bl d-1)≤two (bl n-bl d+1)*d:=gu d1 (cz (two_pos _));rw[←aY,show bl n-bl d+1+(bl d-1)=bl n by omega] at h1;grind
 have test:((if 0≤bl n-bl d then decide (n<d*2^(bl n-bl d).toNat) else decide (n*2^(-(bl n-bl d)).toNat<d))=true)↔(n:Rat)/d<two (bl n-bl d):=by
  rw[key];generalize bl n-bl d=p;split
  ·next h =>
   rw[bj,cW h,←mz,bh,e9]
  ·next h =>
   rw[bj,←mz,bh,←cW (show 0≤-p by omega)];have:=cq (a:=(n:Rat)) (b:=two p*d) (-p);rw[←this];rw[show two p*(d:Rat)*two (-p)=d*(two (-p)*two p) by grind,oV,cC]
 unfold lead;dsimp only;by_cases h:(if 0≤bl n-bl d then decide (n<d*2^(bl n-bl d).toNat) else decide (n*2^(-(bl n-bl d)).toNat<d))=true
 ·rw[ao h];rw[test] at h;exact⟨low,by rw[show bl n-bl d-1+1=bl n-bl d by omega];exact h⟩
 ·rw[ag h];rw[test] at h;exact⟨dY.mp h,high⟩
theorem xR (m:Mode) (neg:Bool) (n d:Int):wq m neg n d=n/d∨(wq m neg n d=n/d+1∧n%d≠0):=by
 unfold wq;split
 ·exact .inl rfl
 ·next h=>exact .inr ⟨rfl,fun q=>h (.inl q)⟩
theorem KN {m:Mode} {neg:Bool} {n d a:Int} (hd:0<d) (h:(a:Rat)≤(n:Rat)/d):a≤wq m neg n d:=by
 have h1:a≤n/d:=by
  have qY:(0:Rat)<d:=eW.mpr hd;have:¬(n:Rat)/d<a:=dY.mpr h;rw[iM qY,←bh,mz] at this;exact(Int.le_ediv_iff_mul_le hd).mpr Kf
 rcases xR m neg n d with e | ⟨e,_⟩<;>omega
theorem F4 {m:Mode} {neg:Bool} {n d b:Int} (hd:0<d) (h:(n:Rat)/d≤(b:Rat)):wq m neg n d≤b:=by
 have qY:(0:Rat)<d:=eW.mpr hd;have:¬(b:Rat)<(n:Rat)/d:=dY.mpr h;rw[Hg qY,←bh,mz] at this;have h2:=uT n d;have h3:=pK n (jw hd);rcases xR m neg n d with e | ⟨e,hr⟩
 ·rw[e];refine Int.not_lt.mp fun q=>?_;have:d*(b+1)≤d*(n/d):=qB Kf (bo hd);rw[Int.mul_add,iJ d b] at this;omega
 ·rw[e];refine Int.not_lt.mp fun q=>?_;have:d*b≤d*(n/d):=qB Kf (bo hd);rw[iJ d b] at this;omega
theorem uP {m:Mode} {neg:Bool} {n d:Int} (hd:0<d) (hn:0≤n):0≤wq m neg n d:=by
 have:=f7 hn (bo hd);rcases xR m neg n d with e | ⟨e,_⟩<;>omega
def ws (t:Fmt) (neg:Bool) (z:Int):Int:=if neg=true then z+aU t else z
def Bp (t:Fmt) (m:Mode) (neg:Bool) (n d power:Int):Int :=
 if n=0 then ws t neg 0 else
  let unit:=max (lead n d+power-t.m) (az t);let shift:=power-unit;let count:=if 0≤shift then wq m neg (n*2^shift.toNat) d else wq m neg n (d*2^(-shift).toNat)
  let size:=(unit-az t)*2^t.m+count
  ws t neg (if bE t≤size then (if m.beyond neg=true then bE t else bE t-1) else size)
theorem sV (t:Fmt) (h:Ok t) {c j:Nat} {u:Int} (hu:u=az t+j) (h1:c≤2^(t.m+1)) (h2:0<j→2^t.m≤c) :
  (two (t.bias+1)≤(c:Rat)*two u)↔bE t≤(j:Int)*2^t.m+c:=by
 have hb:=Bo t h;have hM:=aX t.m;have hB:(4:Int)≤2^t.e:=by
  have:(2:Int)^2≤2^t.e:=gO h.e2;omega
 have hle:az t=1-t.bias-t.m:=by unfold az Fmt.leastExp;omega
 have c1:(c:Int)≤2*2^t.m:=by
  have:=iV.mpr h1;rw[bO,gy] at this;omega
 have c2:0<j→(2:Int)^t.m≤c:=fun q=>by
  have:=iV.mpr (h2 q);rw[bO] at this;exact this
 have e1:two (t.bias+1)=two (t.bias+1-u)*two u:=by rw[←aY];congr 1;omega
 rw[e1,cB];have e2:t.bias+1-u=(2^t.e-2-(j:Int))+t.m:=by omega
 rw[e2];unfold bE;have cr:(c:Rat)=((c:Int):Rat):=(bu c).symm;rw[cr];generalize (c:Int)=C at *;have hm:two (t.m:Int)=((2^t.m:Int):Rat):=gc t.m;by_cases q1:(j:Int)+4≤2^t.e
 ·have a:¬two ((2^t.e-2-(j:Int))+t.m)≤(C:Rat):=by
   intro q;have h3:=gq (show (2+(t.m:Int))≤(2^t.e-2-(j:Int))+t.m by omega);have h4:two (2+(t.m:Int))=((4*2^t.m:Int):Rat):=by
    rw[aY,hm,bh,show two 2=4 by rfl];rfl
   rw[h4] at h3;have h5:=oU.mp (Bc h3 q);omega
  have b:¬(2^t.e-1)*2^t.m≤(j:Int)*2^t.m+C:=by
   intro q;have h3:((j:Int)+3)*2^t.m≤(2^t.e-1)*2^t.m:=i4 Kf Kf;rw[lA] at h3;omega
  exact⟨fun q=>absurd q a,fun q=>absurd q b⟩
 ·by_cases q2:(j:Int)+3=2^t.e
  ·have e3:(2:Int)^t.e-2-(j:Int)+t.m=1+t.m:=by omega
   have e4:two (1+(t.m:Int))=((2*2^t.m:Int):Rat):=by rw[aY,hm,bh,jA];rfl
   rw[e3,e4,oU,show (2:Int)^t.e-1=(j:Int)+2 by omega,lA];omega
  ·by_cases q3:(j:Int)+2=2^t.e
   ·have e3:(2:Int)^t.e-2-(j:Int)+t.m=t.m:=by omega
    rw[e3,hm,oU,show (2:Int)^t.e-1=(j:Int)+1 by omega,lA];omega
   ·have hj:0<j:=by omega
    have a:two ((2^t.e-2-(j:Int))+t.m)≤(C:Rat):=by
     have h3:=gq (show (2^t.e-2-(j:Int))+t.m≤(t.m:Int) by omega);rw[hm] at h3;exact Bc h3 (oU.mpr (c2 hj))
    have b:(2^t.e-1)*2^t.m≤(j:Int)*2^t.m+C:=by
     have h3:(2^t.e-1)*2^t.m≤(j:Int)*2^t.m:=i4 Kf Kf;have:=c2 hj;omega
    exact⟨fun _=>b,fun _=>a⟩
theorem made_int (t : Fmt) (h : Ok t) (m : Mode) (neg : Bool) (c j : Nat) (u : Int) (hu : u = az t + j) (h1 : c ≤ 2 ^ (t.m + 1)) (h2 : 0 < j → 2 ^ t.m ≤ c) :
    ((if two (t.bias + 1) ≤ (c : Rat) * two u then t.over m neg else t.make neg c u : Nat) : Int) =
      ws t neg (if bE t ≤ (j : Int) * 2 ^ t.m + c then (if m.beyond neg = true then bE t else bE t - 1) else (j : Int) * 2 ^ t.m + c) := by
  have hb := Bo t h
  have hM := aX t.m
  have hB : (4 : Int) ≤ 2 ^ t.e := by
    have : (2 : Int) ^ 2 ≤ 2 ^ t.e := gO h.e2
    omega
  have hle : az t = 1 - t.bias - t.m := by unfold az Fmt.leastExp; omega
  have c1 : (c : Int) ≤ 2 * 2 ^ t.m := by
    have := iV.mpr h1
    rw [bO, gy] at this; omega
  have c2 : 0 < j → (2 : Int) ^ t.m ≤ c := fun q => by
    have := iV.mpr (h2 q)
    rw [bO] at this; exact this
  have key := sV t h (c := c) (j := j) hu h1 h2
  by_cases q : two (t.bias + 1) ≤ (c : Rat) * two u
  · rw [ao q, ao (key.mp q), NH t h]
    unfold ws; cases neg <;> simp <;> omega
  · rw [ag q, ag fun z => q (key.mpr z)]
    unfold Fmt.make
    split
    · next h3 =>
      have hj : j = 0 := by
        refine qQ fun z => ?_
        have := h2 Kf; omega
      subst hj
      rw [kK]; unfold ws; cases neg <;> simp <;> omega
    · next h3 =>
      have h4 : 2 ^ t.m ≤ c := by omega
      split
      · next h5 =>
        rw [kK, Al h4, bO]
        have e3 : ((u + t.m + t.bias).toNat : Int) = j + 1 := by omega
        rw [e3, lA]; unfold ws; cases neg <;> simp <;> omega
      · next h5 =>
        have h6 : c = 2 ^ (t.m + 1) := by omega
        have h7 : (c : Int) = 2 * 2 ^ t.m := by rw [h6, bO, gy]; omega
        rw [kK]
        have e3 : ((u + 1 + t.m + t.bias).toNat : Int) = j + 2 := by omega
        rw [e3, lA, h7]; unfold ws; cases neg <;> simp <;> omega
end BF
namespace BF
open Lw
theorem Bq {neg:Bool} {q:Rat} (h:0<q):decide (bK neg q<0)=neg:=by
 unfold bK;cases neg
 ·simp only[aO,aM,J4];grind
 ·simp only[aJ,bj];grind
theorem mB (neg:Bool) (q r:Rat):bK neg q*r=bK neg (q*r):=by
 unfold bK;cases neg
 ·simp
 ·simp only[aJ];exact qR _ _
theorem dF {neg:Bool} {q:Rat}:bK neg q=0↔q=0:=by
 unfold bK;cases neg
 ·simp
 ·simp only[aJ];constructor<;>intro h<;>grind
theorem xS (neg:Bool) (q:Rat):log2 (bK neg q)=log2 q:=by
 unfold bK;cases neg
 ·simp
 ·simp only[aJ];exact NG q
theorem Br (neg:Bool) {z:Int} (h:0≤z):((eH neg z).natAbs:Int)=z:=by
 unfold eH;cases neg<;>simp<;>omega
theorem oX (t:Fmt) (q:Rat):t.unit q=max (log2 q-t.m) (az t):=by
 unfold Fmt.unit az;split<;>omega
theorem v5 (t:Fmt) (m:Mode) (neg:Bool) {n d power:Int} (hn:0<n) (hd:0<d) :
  ∃(u c:Int),u=max (lead n d+power-t.m) (az t)∧c=(if 0≤power-u then wq m neg (n*2^(power-u).toNat) d else wq m neg n (d*2^(-(power-u)).toNat)) ∧
   t.unit (bK neg ((n:Rat)/d*two power))=u∧wholeBy m (bK neg ((n:Rat)/d*two power)/two u)=eH neg c∧0≤c∧c≤2^(t.m+1)∧(az t<u→2^t.m≤c) ∧
   0<(n:Rat)/d*two power:=by
 have ⟨l1,l2⟩:=uO hn hd;have qY:(0:Rat)<d:=eW.mpr hd;have Hr:(0:Rat)<n:=eW.mpr hn;have hx:(0:Rat)<(n:Rat)/d:=by have:=two_pos (lead n d);grind
 have hq:(0:Rat)<(n:Rat)/d*two power:=fC hx (two_pos _);have hL:log2 ((n:Rat)/d*two power)=lead n d+power:=Ie
  (by rw[aY];exact(cB _).mpr l1) (by rw[show lead n d+power+1=lead n d+1+power by omega,aY];exact(cq _).mpr l2)
 refine⟨_,_,rfl,rfl,?_⟩;generalize hu:max (lead n d+power-t.m) (az t)=u;have e1:t.unit (bK neg ((n:Rat)/d*two power))=u:=by rw[oX,xS,hL];exact hu
 have e2:bK neg ((n:Rat)/d*two power)/two u=bK neg ((n:Rat)/d*two (power-u)):=by
  rw[k8,mB,bV,←aY];rfl
 have s1:(n:Rat)/d*two (power-u)≤((2^(t.m+1):Int):Rat):=by
  rw[←gc];have h1:(n:Rat)/d*two (power-u)<two (lead n d+1)*two (power-u):=(cq _).mpr l2;rw[←aY] at h1;have h2:=gq (show lead n d+1+(power-u)≤((t.m+1:Nat):Int) by omega);grind
 have s2:az t<u→((2^t.m:Int):Rat)≤(n:Rat)/d*two (power-u):=fun q=>by
  rw[←gc];have h1:two (lead n d)*two (power-u)≤(n:Rat)/d*two (power-u):=(cB _).mpr l1;rw[←aY] at h1;have h2:=gq (show ((t.m:Nat):Int)≤lead n d+(power-u) by omega);grind
 by_cases hs:0≤power-u
 ·rw[ao hs];have e3:(n:Rat)/d*two (power-u)=((n*2^(power-u).toNat:Int):Rat)/d:=by
   rw[cW hs,bh,bQ,bQ];grind
  have PD:0≤n*2^(power-u).toNat:=fE (bo hn) (bo (aX _));rw[e3] at s1 s2;refine⟨e1,?_,uP hd PD,F4 hd s1,fun q=>KN hd (s2 q),hq⟩;rw[e2,e3];exact rD m neg hd PD
 ·rw[ag hs];have Tu:0<d*2^(-(power-u)).toNat:=pS hd (aX _);have e3:(n:Rat)/d*two (power-u)=(n:Rat)/((d*2^(-(power-u)).toNat:Int):Rat):=by
   rw[bh,←cW (show 0≤-(power-u) by omega)];rw[bQ,bQ,Bn];have:(two (-(power-u)))⁻¹=two (power-u):=pP (oV _);rw[this];grind
  rw[e3] at s1 s2;refine⟨e1,?_,uP Tu (bo hn),F4 Tu s1,fun q=>KN Tu (s2 q),hq⟩;rw[e2,e3];exact rD m neg Tu (bo hn)
theorem jQ (t:Fmt) (h:Ok t) (m:Mode) (neg:Bool) {n d power:Int} (hn:0<n) (hd:0<d) :
  ∃c j:Nat,(az t+j=max (lead n d+power-t.m) (az t))∧t.unit (bK neg ((n:Rat)/d*two power))=az t+j ∧
   wholeBy m (bK neg ((n:Rat)/d*two power)/two (az t+j))=eH neg c∧c≤2^(t.m+1)∧(0<j→2^t.m≤c) ∧
   (c:Int)=(if 0≤power-(az t+j) then wq m neg (n*2^(power-(az t+j)).toNat) d else wq m neg n (d*2^(-(power-(az t+j))).toNat)) ∧
   (t.round m (bK neg ((n:Rat)/d*two power)):Int)=ws t neg (if bE t≤(j:Int)*2^t.m+c then (if m.beyond neg=true then bE t else bE t-1) else (j:Int)*2^t.m+c):=by
 obtain⟨u,c,hu,hc,e1,e2,c0,c1,c2,hq⟩:=v5 t m neg (power:=power) hn hd;obtain⟨j,hj⟩:=aA (show 0≤u-az t by omega);obtain⟨C,hC⟩:=aA c0;have uj:u=az t+j:=by omega
 subst uj;subst hC;have d1:C≤2^(t.m+1):=by
  have:=c1;rw[←bO] at this;exact iV.mp this
 have d2:0<j→2^t.m≤C:=fun q=>by
  have:=c2 Kf;rw[←bO] at this;exact iV.mp this
 refine⟨C,j,hu,e1,e2,d1,d2,hc,?_⟩;unfold Fmt.round;simp only[e1,e2,Bq hq];have e3:(eH neg (C:Int)).natAbs=C:=by
  have:=Br neg (z:=(C:Int)) Kf;omega
 rw[e3];exact made_int t h m neg C j _ rfl d1 d2
theorem v7 (t:Fmt) (h:Ok t) (m:Mode) (neg:Bool) {n d power:Int} (hn:0≤n) (hd:0<d) :
  (t.put m neg (bK neg ((n:Rat)/d*two power)):Int)=Bp t m neg n d power:=by
 unfold Fmt.put Bp;by_cases h0:n=0
 ·subst h0;have:bK neg (((0:Int):Rat)/d*two power)=0:=by
   rw[dF];show (0:Rat)/d*two power=0;rw[bQ,bF,bF]
  rw[ao this,ao rfl,E4];unfold ws;simp
 ·have Hr:0<n:=by omega
  obtain⟨c,j,hu,e1,e2,d1,d2,hc,hr⟩:=jQ t h m neg (power:=power) Hr hd;have hq:0<(n:Rat)/d*two power:=by
   have ⟨l1,l2⟩:=uO Hr hd;have hx:(0:Rat)<(n:Rat)/d:=by have:=two_pos (lead n d);grind
   exact fC hx (two_pos _)
  have:¬bK neg ((n:Rat)/d*two power)=0:=by rw[dF];grind
  rw[ag this,ag h0,hr];simp only[←hu,←hc];rw[show az t+(j:Int)-az t=j by omega]
theorem oY (q:Rat):∃(neg:Bool) (n d:Int),0≤n∧0<d∧q=bK neg ((n:Rat)/d*two 0)∧(q≠0→neg=decide (q<0)):=by
 refine⟨decide (q<0),q.num.natAbs,q.den,Kf,by have:=q.den_pos;omega,?_,fun _=>rfl⟩;have h1:q=(q.num:Rat)/(q.den:Rat):=by
  have:=Hd q.num q.den;rw[He] at this;exact this
 rw[de,cC];unfold bK;by_cases h:q<0
 ·have hn:q.num<0:=by
   have h2:¬0≤q:=by grind
   exact Int.not_le.mp fun z=>h2 (Hc.mp z)
  simp only[h,Cp,aJ]
  conv=>lhs;rw[h1]
  have:((q.num.natAbs:Int):Rat)=-(q.num:Rat):=by rw[←iF];exact rz.mpr Kf
  rw[this,bQ,bQ,qR,nB];rfl
 ·have hn:0≤q.num:=Hc.mpr (by grind);simp only[h,k7,aO,aM]
  conv=>lhs;rw[h1]
  have:((q.num.natAbs:Int):Rat)=(q.num:Rat):=rz.mpr Kf;rw[this];rfl
end BF
namespace BF
open Lw
structure Ex where
 nan:Bool
 inf:Bool
 neg:Bool
 size:Int
 power:Int
 deriving DecidableEq
def Ex.kind (u:Ex):Kind:=if u.nan=true then .nan else if u.inf=true then .inf u.neg else .num u.neg (bK u.neg ((u.size:Rat)*two u.power))
def ki:Ex:=⟨true,false,true,0,0⟩
def rG (neg:Bool):Ex:=⟨false,true,neg,0,0⟩
def bN (neg:Bool) (size power:Int):Ex:=⟨false,false,neg,size,power⟩
def ta (t:Fmt) (x:Int):Ex :=
 let neg:=decide (aU t≤x);let X:=x%aU t
 if bE t<X then ki
 else if X=bE t then rG neg
 else if X/2^t.m=0 then bN neg X (az t)
 else bN neg (X-(X/2^t.m-1)*2^t.m) (az t+X/2^t.m-1)
structure Parts (t:Fmt) (x:Nat) (neg:Bool) (f r:Nat):Prop where
 Vy:t.neg x=neg
 fld:t.field x=f
 frc:t.frac x=r
 fl:f<2^t.e
 rl:r<2^t.m
 int:(x:Int)=(if neg=true then aU t else 0)+(f*2^t.m+r)
theorem NI {t:Fmt} {x:Nat} {neg:Bool} {f r:Nat} (p:Parts t x neg f r):(f:Int)*2^t.m+r<aU t∧(0:Int)≤f*2^t.m+r:=by
 have h1:f*2^t.m+r<2^(t.e+t.m):=by
  rw[eC];have:=p.fl;have:=p.rl;have:(f+1)*2^t.m≤2^t.e*2^t.m:=vW _ Kf;rw[vY] at this;omega
 have h2:((f*2^t.m+r:Nat):Int)=(f:Int)*2^t.m+r:=by rw[cJ,eR,bO]
 rw[←h2];unfold aU;rw[←bO];exact⟨j1.mpr h1,Kf⟩
theorem parts (t:Fmt) (x:Nat) (hx:x<2*t.sign):Parts t x (t.neg x) (t.field x) (t.frac x):=by
 refine⟨rfl,rfl,rfl,fG _ (cV _),fG _ (cV _),?_⟩;have e1:x=(if t.neg x=true then t.sign else 0)+(t.field x*2^t.m+t.frac x):=by
  unfold Fmt.neg Fmt.field Fmt.frac;have hs:t.sign=2^t.e*2^t.m:=by unfold Fmt.sign;exact eC 2 t.e t.m
  have hp:0<t.sign:=cV _;have hdiv:x/2^t.m/2^t.e=x/t.sign:=by rw[Nat.div_div_eq_div_mul,eF,←hs]
  have h1:=gD x (2^t.m);have h2:=gD (x/2^t.m) (2^t.e);rw[hdiv] at h2;have oS:x/t.sign<2:=Hh Kf;generalize x/2^t.m%2^t.e=f at *;generalize x%2^t.m=r at *;generalize x/t.sign=s at *;generalize x/2^t.m=y at *;have h3:x=s*t.sign+(f*2^t.m+r):=by
   rw[←h1,←h2,hs,Nat.mul_add,eF (2^t.e) s,eF (2^t.m) (s*2^t.e),we,eF (2^t.m) f];omega
  rw[h3];have:s=0∨s=1:=by omega
  rcases this with rfl | rfl<;>simp
 have e2:=a7 (Nat.cast:Nat→Int) e1;rw[e2,cJ,cJ,eR,bO];cases t.neg x
 ·rfl
 ·simp only[aJ,dX]
theorem E5 (t:Fmt) (neg:Bool) (X:Nat) (hX:(X:Int)<aU t):Parts t ((if neg=true then t.sign else 0)+X) neg (X/2^t.m) (X%2^t.m):=by
 have Qi:X<t.sign:=by rw[←dX] at hX;omega
 have hs:t.sign=2^t.m*2^t.e:=by unfold Fmt.sign;rw[eC,eF]
 have hp:0<t.sign:=cV _;have hf:X/2^t.m<2^t.e:=Hh (by rw[←hs];exact Qi);refine⟨?_,?_,?_,hf,fG _ (cV _),?_⟩
 ·unfold Fmt.neg;cases neg
  ·simp only[aO,aM,lD,DD Qi];rfl
  ·simp only[aJ];rw[kZ,Hj _ hp,DD Qi];rfl
 ·unfold Fmt.field;cases neg
  ·simp only[aO,aM,lD];exact qW hf
  ·simp only[aJ];rw[hs,kZ,Nat.add_mul_div_left _ _ (cV _),Hk];exact qW hf
 ·unfold Fmt.frac;cases neg
  ·simp
  ·simp only[aJ];rw[hs,kZ,Nat.add_mul_mod_self_left]
 ·rw[cJ];have h:=gD X (2^t.m);have e2:((X/2^t.m:Nat):Int)*2^t.m+((X%2^t.m:Nat):Int)=X:=by
   rw[←bO,←eR,←cJ,eF];rw[h]
  rw[e2];cases neg
  ·rfl
  ·simp only[aJ,dX]
theorem Bs {t:Fmt} {x:Nat} {neg:Bool} {f r:Nat} (p:Parts t x neg f r):(x:Int)%aU t=(f:Int)*2^t.m+r∧decide (aU t≤(x:Int))=neg:=by
 have ⟨h1,h2⟩:=NI p;have h3:=p.int;rw[h3];generalize (f:Int)*2^t.m+r=Y at *;cases neg
 ·simp only[aO,aM];exact⟨by rw[Int.zero_add];exact Hq h2 h1,by simp;omega⟩
 ·simp only[aJ];exact⟨by rw[Int.add_comm,Int.add_emod_right];exact Hq h2 h1,by simp;omega⟩
theorem Qj {t:Fmt} {f r:Nat} (h:r<2^t.m):((f:Int)*2^t.m+r)/2^t.m=f:=by
 have hr:(r:Int)<2^t.m:=by rw[←bO];exact j1.mpr h
 rw[Int.add_comm,Int.add_mul_ediv_right _ _ (jw (aX _)),Int.ediv_eq_zero_of_lt Kf hr];omega
theorem cX (t:Fmt) (x:Nat) (hx:x<2*t.sign):(ta t x).kind=t.kind x:=by
 have p:=parts t x hx;have Bt:=p.Vy;have WM:=p.fl;have ZA:=p.rl;have ⟨hX,hN⟩:=Bs p;have hM:=aX t.m;have ZB:=rE t;unfold ta Fmt.kind;simp only[hX,hN];generalize t.neg x=neg at *;have hr:(t.frac x:Int)<2^t.m:=by rw[←bO];exact j1.mpr ZA
 have hf:(t.field x:Int)<2^t.e:=by rw[←bO];exact j1.mpr WM
 have hfX:=Qj (t:=t) (f:=t.field x) ZA;simp only[hfX];generalize t.field x=f at *;generalize t.frac x=r at *;unfold bE;by_cases h1:f=t.top
 ·have uN:(f:Int)=2^t.e-1:=by rw[h1];exact ZB
  rw[ao h1,uN];by_cases h2:r=0
  ·subst h2;rw[ag Kf,ao Kf,ao rfl];rfl
  ·rw[ao Kf,ag h2];rfl
 ·have uN:(f:Int)<2^t.e-1:=by
   have:(f:Int)≠t.top:=fun q=>h1 (i5 q);omega
  have h3:((f:Int)+1)*2^t.m≤(2^t.e-1)*2^t.m:=i4 Kf Kf;rw[lA] at h3;rw[ag Kf,ag Kf,ag h1];by_cases h2:f=0
  ·subst h2;rw[ao (by rfl),ao rfl];simp only[Ex.kind,bN,aO,aM];have:((((0:Nat):Int)*2^t.m+(r:Int):Int):Rat)=(r:Rat):=by rw[←bu];exact rz.mpr (by simp)
   rw[this];rfl
  ·rw[ag Kf,ag h2];simp only[Ex.kind,bN,aO,aM];have e1:(f:Int)*2^t.m+r-((f:Int)-1)*2^t.m=((2^t.m+r:Nat):Int):=by
    rw[nH,cJ,bO];omega
   have e2:az t+(f:Int)-1=(f:Int)-t.bias-t.m:=by unfold az Fmt.leastExp;omega
   rw[e1,e2,bu];rfl
theorem gi (t:Fmt) (x:Int) (h:0≤x):0≤(ta t x).size∧(ta t x).size<2^(t.m+1):=by
 have hM:=aX t.m;have hS:0<aU t:=aX _;have h0:=pK x (jw hS);have hp:(2:Int)^(t.m+1)=2*2^t.m:=by rw[gy];omega
 unfold ta;dsimp only;generalize x%aU t=X at *;have hd:=Int.mul_ediv_add_emod X (2^t.m);have r0:=Int.emod_nonneg X (Int.ne_of_gt hM);have r1:=Int.emod_lt_of_pos X hM;rw[Int.mul_comm] at hd;rw[hp];split
 ·simp[ki];omega
 ·split
  ·simp[rG];omega
  ·split
   ·next h1=>rw[h1] at hd;simp[bN];omega
   ·next h1=>simp only[bN];rw[nH];omega
end BF
namespace BF
open Lw
theorem dB (t:Fmt):bE t<aU t:=by
 unfold bE aU;rw[ji,nH];have:=aX t.m;omega
def pat (t:Fmt) (neg:Bool) (X:Nat):Nat:=(if neg=true then t.sign else 0)+X
theorem kj (t:Fmt) (neg:Bool) (X:Nat):(pat t neg X:Int)=ws t neg X:=by
 unfold pat ws;rw[cJ];cases neg
 ·simp
 ·simp only[aJ,dX];omega
theorem lR (t:Fmt) (neg:Bool) {X:Nat} (h:(X:Int)<aU t):pat t neg X<2*t.sign:=by
 have:=dX t;unfold pat;cases neg<;>simp<;>omega
theorem NJ (t:Fmt):0<t.sign:=cV _
theorem jl (t:Fmt) (x:Nat) (hx:x<2*t.sign):x=pat t (t.neg x) (x%t.sign)∧((x%t.sign:Nat):Int)<aU t:=by
 have hp:=NJ t;have oS:x/t.sign<2:=Hh Kf;have h1:=gD x t.sign;refine⟨?_,by rw[←dX];exact j1.mpr (fG _ hp)⟩;unfold pat Fmt.neg;generalize x%t.sign=r at *;generalize x/t.sign=s at *;have:s=0∨s=1:=by omega
 rcases this with rfl | rfl
 ·simp;omega
 ·simp;omega
theorem v8 {t:Fmt} {neg:Bool} {X:Nat} (h:(X:Int)<aU t):t.neg (pat t neg X)=neg:=(E5 t neg X h).Vy
theorem v9 {t:Fmt} {neg:Bool} {X:Nat} (h:(X:Int)<aU t):pat t neg X%t.sign=X:=by
 have h2:X<t.sign:=by rw[←dX] at h;omega
 unfold pat;cases neg
 ·simp;exact qW h2
 ·simp;exact qW h2
theorem iC {t:Fmt} {neg:Bool} {X:Nat} (h:(X:Int)<aU t):((pat t neg X:Int))%aU t=X∧decide (aU t≤(pat t neg X:Int))=neg:=by
 have p:=Bs (E5 t neg X h);have e2:((X/2^t.m:Nat):Int)*2^t.m+((X%2^t.m:Nat):Int)=X:=by
  rw[←bO,←eR,←cJ,eF,gD]
 rw[e2] at p;exact p
def gv (t:Fmt) (X:Nat):Nat:=if X/2^t.m=0 then X else (2^t.m+X%2^t.m)*2^(X/2^t.m-1)
theorem mi (t:Fmt) (neg:Bool) {X:Nat} (hX:(X:Int)<bE t):t.kind (pat t neg X)=.num neg (bK neg ((gv t X:Rat)*two (az t))):=by
 have h:=lI hX (dB t);rw[←cX t _ (lR t neg h)];have ⟨h1,h2⟩:=iC (neg:=neg) h;unfold ta;simp only[h1,h2];rw[ag Kf,ag Kf];have hd:((X:Int)/2^t.m)=((X/2^t.m:Nat):Int):=by rw[←bO];rfl
 rw[hd];unfold gv;have hdm:=gD X (2^t.m);by_cases q:X/2^t.m=0
 ·rw[ao q,ao (by rw[q];rfl)];simp only[Ex.kind,bN,aO,aM,bu]
 ·rw[ag q,ag Kf];simp only[Ex.kind,bN,aO,aM];have e1:(X:Int)-(((X/2^t.m:Nat):Int)-1)*2^t.m=((2^t.m+X%2^t.m:Nat):Int):=by
   rw[nH,cJ,bO];have:=a7 (Nat.cast:Nat→Int) hdm;rw[cJ,eR,bO,iJ] at this;omega
  have e2:az t+((X/2^t.m:Nat):Int)-1=((X/2^t.m-1:Nat):Int)+az t:=by
   have q':=vz q;generalize X/2^t.m=k at q';omega
  rw[e1,e2,aY,dJ,eD,bu];congr 2;grind
theorem rH (t:Fmt) {c j:Nat} (h1:c≤2^(t.m+1)) (h2:0<j→2^t.m≤c):gv t (j*2^t.m+c)=c*2^j:=by
 have hM:0<2^t.m:=cV _;have hp:2^(t.m+1)=2*2^t.m:=by rw[gW];omega
 unfold gv;generalize 2^t.m=M at *;by_cases q1:c<M
 ·have hj:j=0:=by
   refine qQ fun z=>?_;have:=h2 Kf;omega
  subst hj;rw[Nat.zero_mul,lD,ao (DD q1)];simp
 ·by_cases q2:c<2*M
  ·have e1:(j*M+c)/M=j+1:=by
    rw[kZ,Nat.add_mul_div_right _ _ hM,show c=(c-M)+M by omega,Hj _ hM,DD Kf];omega
   have e2:(j*M+c)%M=c-M:=by
    rw[kZ,Nat.add_mul_mod_self_right,show c=(c-M)+M by omega,Hk,qW Kf];omega
   rw[e1,e2,ag Kf,show M+(c-M)=c by omega,lz]
  ·have e0:c=2*M:=by omega
   subst e0;have e1:(j*M+2*M)/M=j+2:=by rw[←vY,Nat.mul_div_cancel _ hM]
   have e2:(j*M+2*M)%M=0:=by rw[←vY,Nat.mul_mod_left]
   rw[e1,e2,ag Kf,show j+2-1=j+1 by omega,gW];rw[Nat.add_zero,eF (2^j) 2,←we,eF M 2]
theorem Bu (t:Fmt) {X Y:Nat} (h:X<Y):gv t X<gv t Y:=by
 have hM:0<2^t.m:=cV _;unfold gv;generalize 2^t.m=M at *;have dx:=gD X M;have dy:=gD Y M;have rx:=fG X hM;have ry:=fG Y hM;have hf:X/M≤Y/M:=Nat.div_le_div_right Kf;by_cases q1:Y/M=0
 ·have:X/M=0:=Nat.le_zero.mp (q1 ▸ hf);rw[ao q1,ao this];exact h
 ·rw[ag q1];by_cases q2:X/M=0
  ·rw[ao q2];rw[q2] at dx;have:1≤2^(Y/M-1):=pN;have h2:(M+Y%M)*1≤(M+Y%M)*2^(Y/M-1):=Hs _ this;omega
  ·rw[ag q2];by_cases q3:X/M=Y/M
   ·rw[q3];rw[q3] at dx;exact DE Kf (cV _)
   ·obtain⟨k,hk⟩:∃k,Y/M-1=(X/M-1)+1+k:=by
     have q2':=vz q2;have ZC:=Nat.lt_of_le_of_ne hf q3;generalize X/M=fx at q2' ZC ⊢;generalize Y/M=fy at ZC ⊢;exact⟨fy-1-(fx-1)-1,Kf⟩
    rw[hk,eC,gW];have h1:1≤2^k:=pN;have hp:0<2^(X/M-1):=cV _;generalize 2^(X/M-1)=P at *;have a1:(M+X%M)*P<(2*M)*P:=DE Kf hp;have a2:M*(P*2*1)≤(M+Y%M)*(P*2*2^k):=DF Kf (Hs _ h1);have a3:(2*M)*P=M*(P*2*1):=by rw[Nat.mul_one,eF 2 M,we,eF 2 P]
    omega
theorem uR (t:Fmt) {X Y:Nat}:gv t X<gv t Y↔X<Y:=by
 constructor
 ·intro h;rcases Nat.lt_trichotomy X Y with q | q | q
  ·exact q
  ·subst q;omega
  ·have:=Bu t q;omega
 ·exact Bu t
theorem mC (t:Fmt):gv t 0=0:=by unfold gv;rw[Nat.zero_div,ao rfl]
theorem nP (t:Fmt) {X:Nat}:gv t X=0↔X=0:=by
 constructor
 ·intro h;by_cases q:X=0
  ·exact q
  ·have:=Bu t (show 0<X by omega);rw[mC] at this;omega
 ·rintro rfl;exact mC t
theorem Ms (m:Mode) (neg:Bool) (n:Int):wq m neg n 1=n:=by
 unfold wq;rw[ao (.inl (Int.emod_one n)),Int.ediv_one]
theorem Ig (t:Fmt) (h:Ok t) (m:Mode) (neg:Bool) {c j:Nat} (c0:0<c) (c1:c<2^(t.m+1)) (c2:0<j→2^t.m≤c) :
  (t.round m (bK neg ((c:Rat)*two (az t+j))):Int)=ws t neg (if bE t≤(j:Int)*2^t.m+c then (if m.beyond neg=true then bE t else bE t-1) else (j:Int)*2^t.m+c):=by
 have e0:(c:Rat)*two (az t+j)=((c:Int):Rat)/((1:Int):Rat)*two (az t+j):=by
  show _=(c:Rat)/1*_;congr 1;rw[bQ];grind
 have ⟨l1,l2⟩:=uO (n:=(c:Int)) (d:=1) Kf J9;have e1:((c:Int):Rat)/((1:Int):Rat)=((c:Int):Rat):=by show ((c:Int):Rat)/1=_;rw[bQ];grind
 rw[e1] at l1 l2;have ZD:((c:Int):Rat)<two ((t.m+1:Nat):Int):=by rw[gc,mz,←bO];exact j1.mpr c1
 have b1:lead (c:Int) 1<((t.m+1:Nat):Int):=ee.mp (by grind);have b2:0<j→(t.m:Int)<lead (c:Int) 1+1:=fun q=>by
  have:two (t.m:Int)≤((c:Int):Rat):=by rw[gc,oU,←bO];exact iV.mpr (c2 q)
  exact ee.mp (by grind)
 rw[e0];obtain⟨c',j',hu,_,_,_,_,hc,hr⟩:=jQ t h m neg (n:=(c:Int)) (d:=1) (power:=az t+j) Kf J9;have hj:j'=j:=by
  by_cases q:0<j
  ·have:=b2 q;omega
  ·omega
 subst hj;rw[ao Kf,show az t+(j':Int)-(az t+j')=0 by omega] at hc;rw[Ms] at hc;have FL:c'=c:=by
  have:(c':Int)=c:=by rw[hc];simp
  exact i5 this
 subst FL;exact hr
theorem uS (t:Fmt) (h:Ok t) (m:Mode) (neg:Bool) {X:Nat} (hX:(X:Int)<bE t):t.put m neg (bK neg ((gv t X:Rat)*two (az t)))=pat t neg X:=by
 have hM:0<2^t.m:=cV _;have dx:=gD X (2^t.m);have rx:=fG X hM;have hp:2^(t.m+1)=2*2^t.m:=by rw[gW];omega
 unfold Fmt.put;by_cases h0:X=0
 ·subst h0;have:bK neg ((gv t 0:Rat)*two (az t))=0:=by rw[dF,mC];exact bF _
  rw[ao this];unfold Fmt.zero Fmt.pack pat;simp
 ·have g0:gv t X≠0:=fun q=>h0 ((nP t).mp q);have:¬bK neg ((gv t X:Rat)*two (az t))=0:=by
   rw[dF,jg];rintro(q | q)
   ·exact g0 (Hf.mp q)
   ·exact jk _ q
  rw[ag this];refine i5 ?_;show ((t.round m _:Nat):Int)=((pat t neg X:Nat):Int);rw[kj];obtain⟨c,j,hc0,ZD,ZE,KO⟩:∃c j:Nat,0<c∧c<2^(t.m+1)∧(0<j→2^t.m≤c)∧X=j*2^t.m+c:=by
   by_cases q:X/2^t.m=0
   ·rw[q] at dx;exact⟨X,0,Kf,Kf,Kf,Kf⟩
   ·refine⟨2^t.m+X%2^t.m,X/2^t.m-1,Kf,Kf,Kf,?_⟩;obtain⟨k,hk⟩:∃k,X/2^t.m=k+1:=⟨X/2^t.m-1,(J7 (vz q)).symm⟩;rw[hk] at dx ⊢;rw[Nat.mul_add,eF] at dx;rw[lz];omega
  have e1:(gv t X:Rat)*two (az t)=(c:Rat)*two (az t+j):=by
   rw[KO,rH t Kf ZE,eD,aY,dJ];grind
  rw[e1,Ig t h m neg hc0 ZD ZE];have e2:(j:Int)*2^t.m+c=X:=by rw[KO,cJ,eR,bO]
  rw[e2,ag Kf]
theorem gP (t:Fmt) (neg:Bool) {X:Nat} (h:(X:Int)<aU t) :
  t.kind (pat t neg X)=if (X:Int)<bE t then .num neg (bK neg ((gv t X:Rat)*two (az t))) else if (X:Int)=bE t then .inf neg else .nan:=by
 split
 ·next q=>exact mi t neg q
 ·next q =>
  rw[←cX t _ (lR t neg h)];have ⟨h1,h2⟩:=iC (neg:=neg) h;unfold ta;dsimp only;rw[h1,h2];by_cases q2:(X:Int)=bE t
  ·rw[ag Kf,ao q2,ao q2];rfl
  ·rw[ao Kf,ag q2];rfl
theorem F6 (t:Fmt) (h:Ok t) (m:Mode) (neg:Bool) (q:Rat):∃s X,t.put m neg q=pat t s X∧(X:Int)≤bE t:=by
 have hi:=gh t h;obtain⟨sg,n,d,hn,hd,e,_⟩:=oY q;by_cases h0:q=0
 ·refine⟨neg,0,?_,Kf⟩;unfold Fmt.put;rw[ao h0];unfold Fmt.zero Fmt.pack pat;simp
 ·have uU:n≠0:=fun z=>h0 (by
   rw[e,z,dF];show (0:Rat)/d*two 0=0;rw[bQ,bF,bF])
  obtain⟨c,j,_,_,_,_,_,_,hr⟩:=jQ t h m sg (power:=0) (show 0<n by omega) hd;rw[←e] at hr;have key:∃X:Nat,(X:Int)=(if bE t≤(j:Int)*2^t.m+c then (if m.beyond sg=true then bE t else bE t-1) else (j:Int)*2^t.m+c)∧(X:Int)≤bE t:=by
   have hj:0≤(j:Int)*2^t.m:=fE Kf (bo (aX _));split
   ·split
    ·exact⟨(bE t).toNat,Kf,Kf⟩
    ·exact⟨(bE t-1).toNat,Kf,Kf⟩
   ·exact⟨((j:Int)*2^t.m+c).toNat,Kf,Kf⟩
  obtain⟨X,hX,Qi⟩:=key;refine⟨sg,X,?_,Qi⟩;unfold Fmt.put;rw[ag h0];refine i5 ?_;show ((t.round m q:Nat):Int)=_;rw[hr,←hX,←kj];rfl
end BF
namespace BF
open Lw
theorem fI {u:Ex} (h:u.nan=true):u.kind=.nan:=by unfold Ex.kind;rw[ao h]
theorem cU {u:Ex} (h:u.nan=false) (h2:u.inf=true):u.kind=.inf u.neg:=by unfold Ex.kind;rw[h,ag J9,ao h2]
theorem bH {u:Ex} (h:u.nan=false) (h2:u.inf=false):u.kind=.num u.neg (bK u.neg ((u.size:Rat)*two u.power)):=by
 unfold Ex.kind;rw[h,ag J9,h2,ag J9]
theorem Tw (t:Fmt) (h:Ok t) (m:Mode) {u:Ex} (h1:u.nan=false) (h2:u.inf=false) (h3:0≤u.size):(t.ofKind m u.kind:Int)=Bp t m u.neg u.size 1 u.power:=by
 rw[bH h1 h2,←v7 t h m u.neg h3 J9];show ((t.put m u.neg _:Nat):Int)=_;have e:(u.size:Rat)/((1:Int):Rat)=u.size:=by show (u.size:Rat)/1=_;rw[bQ];grind
 rw[e]
theorem kX (t:Fmt) (m:Mode) (s r:Bool) {q:Rat} (h:q≠0):t.put m s q=t.put m r q:=by
 unfold Fmt.put;rw[ag h,ag h]
def cnt (u:Ex) (p:Int):Int:=eH u.neg (u.size*2^(u.power-p).toNat)
def cG (m:Mode) (u v:Ex):Ex :=
 if (u.nan||v.nan)=true then ki
 else if (u.inf&&v.inf&&(u.neg != v.neg))=true then ki
 else if (u.inf||v.inf)=true then (if u.inf=true then u else v)
 else
  let p:=min u.power v.power;let total:=cnt u p+cnt v p
  if total=0 then bN (if u.neg=v.neg then u.neg else m.isDown) 0 p else bN (decide (total<0)) total.natAbs p
theorem oZ {u:Ex} {p:Int} (h:p≤u.power):((cnt u p:Int):Rat)*two p=bK u.neg ((u.size:Rat)*two u.power):=by
 have e:((u.size*2^(u.power-p).toNat:Int):Rat)*two p=(u.size:Rat)*two u.power:=by
  rw[bh,←cW (show 0≤u.power-p by omega),bV,←aY,show u.power-p+p=u.power by omega]
 unfold cnt eH bK;cases u.neg
 ·simp only[aO,aM];exact e
 ·simp only[aJ];rw[iF,qR,e]
theorem k9 {z p:Int} (h:z≠0):(bN (decide (z<0)) z.natAbs p).kind=.num (decide (z<0)) ((z:Rat)*two p):=by
 unfold bN;rw[bH rfl rfl];congr 1;unfold bK;by_cases q:z<0
 ·simp only[q,Cp,aJ];rw[←qR,←iF];congr 2;omega
 ·simp only[q,k7,aO,aM];congr 2;omega
theorem Bv {s r:Bool} {a b:Rat} (ha:0≤a) (hb:0≤b) (h:bK s a+bK r b=0) (e:s=r):a=0∧b=0:=by
 subst e;unfold bK at h;cases s
 ·simp only[aO,aM] at h;constructor<;>grind
 ·simp only[aJ] at h;constructor<;>grind
theorem yM {u:Ex} (h:0≤u.size):0≤(u.size:Rat)*two u.power:=pM (Gk.mpr h) (cz (two_pos _))
theorem qd (t:Fmt) (m:Mode) {u v:Ex} (hu:0≤u.size) (hv:0≤v.size):t.ofKind m (cG m u v).kind=t.addKinds m u.kind v.kind:=by
 unfold cG;cases eM:u.nan
 ·cases iK:v.nan
  ·cases eT:u.inf
   ·cases iL:v.inf
    ·simp only[eS,aO,aM,DG,ib];rw[bH eM eT,bH iK iL];have e1:=oZ (u:=u) (p:=min u.power v.power) Kf;have e2:=oZ (u:=v) (p:=min u.power v.power) Kf;have e3:((cnt u (min u.power v.power)+cnt v (min u.power v.power):Int):Rat)*two (min u.power v.power)=bK u.neg ((u.size:Rat)*two u.power)+bK v.neg ((v.size:Rat)*two v.power):=by
      rw[dH,pL,e1,e2]
     generalize hp:min u.power v.power=p at *;generalize hz:cnt u p+cnt v p=z at *;have nu:=yM hu;have nv:=yM hv;simp only[Fmt.addKinds];by_cases q:z=0
     ·rw[ao q];have s0:bK u.neg ((u.size:Rat)*two u.power)+bK v.neg ((v.size:Rat)*two v.power)=0:=by rw[←e3,q];exact bF _
      rw[s0];unfold bN;rw[bH rfl rfl];have z0:∀s:Bool,bK s (((0:Int):Rat)*two p)=0:=fun s=>by rw[dF];exact bF _
      simp only[z0];show t.put m _ 0=t.put m _ 0;unfold Fmt.put;rw[ao rfl,ao rfl];congr 1;unfold zeroSign;by_cases hs:u.neg=v.neg
      ·have ⟨a,b⟩:=Bv nu nv s0 hs;rw[ao hs,ao ⟨dF.mpr a,dF.mpr b,hs⟩]
      ·rw[ag hs,ag fun z=>hs z.2.2]
     ·rw[ag q,k9 q,e3];refine kX t m _ _ ?_;rw[←e3,Ne,jg];rintro(w | w)
      ·exact q (jx.mp w)
      ·exact jk _ w
    ·simp only[eS,aO,aM,ib,lJ,aJ];rw[bH eM eT,cU iK iL];rfl
   ·cases iL:v.inf
    ·simp only[eS,aO,aM,uA,ib,Bool.true_or,aJ];rw[bH iK iL,cU eM eT];rfl
    ·rw[cU eM eT,cU iK iL];simp only[eS,aO,aM,DG,fJ,aJ,Fmt.addKinds];cases hsu:u.neg<;>cases hsv:v.neg<;>simp[ki,Ex.kind,Fmt.ofKind,eM,eT,hsu]
  ·rw[fI iK];simp only[Bool.or_true,aJ];show t.nan=_;cases eT:u.inf
   ·rw[bH eM eT];rfl
   ·rw[cU eM eT];rfl
 ·rw[fI eM];simp only[Bool.true_or,aJ];rfl
def bC (u:Ex):Bool:=!u.nan&&(!u.inf&&decide (u.size=0))
def gr (u v:Ex):Ex :=
 if (u.nan||v.nan)=true then ki
 else if (u.inf||v.inf)=true then (if (bC u||bC v)=true then ki else rG (u.neg != v.neg))
 else bN (u.neg != v.neg) (u.size*v.size) (u.power+v.power)
theorem val_zero {u:Ex}:bK u.neg ((u.size:Rat)*two u.power)=0↔u.size=0:=by
 rw[dF,jg];constructor
 ·rintro(w | w)
  ·exact jx.mp w
  ·exact absurd w (jk _)
 ·intro h;rw[h];exact .inl rfl
theorem NK (s r:Bool) (a b:Rat):bK s a*bK r b=bK (s != r) (a*b):=by
 unfold bK;cases s<;>cases r<;>simp<;>grind
theorem nQ (u v:Ex):(gr u v).kind=timesKinds u.kind v.kind:=by
 unfold gr bC;cases eM:u.nan
 ·cases iK:v.nan
  ·cases eT:u.inf
   ·cases iL:v.inf
    ·rw[bH eM eT,bH iK iL];simp only[eS,aO,aM,timesKinds];unfold bN;rw[bH rfl rfl,NK];congr 2;rw[bh,aY];grind
    ·rw[bH eM eT,cU iK iL];simp only[eS,lJ,aO,aM,aJ,timesKinds,fR,vy,ib,fJ,Hu,val_zero];by_cases h:u.size=0
     ·simp[h,ki,Ex.kind]
     ·simp[h,rG,Ex.kind]
   ·cases iL:v.inf
    ·rw[bH iK iL,cU eM eT];simp only[eS,Hu,aO,aM,aJ,timesKinds,fR,vy,ib,fJ,lJ,val_zero];by_cases h:v.size=0
     ·simp[h,ki,Ex.kind]
     ·simp[h,rG,Ex.kind]
    ·rw[cU eM eT,cU iK iL];simp[rG,Ex.kind,timesKinds]
  ·rw[fI iK];simp only[Bool.or_true,aJ];cases eT:u.inf
   ·rw[bH eM eT];rfl
   ·rw[cU eM eT];rfl
 ·rw[fI eM];rfl
theorem WN {u:Ex} (h:0≤u.size) {v:Ex} (h':0≤v.size):0≤(gr u v).size:=by
 unfold gr;split
 ·decide
 ·split
  ·split<;>exact oE 0
  ·exact fE h h'
theorem KP {m:Mode} {u:Ex} (h:0≤u.size) {v:Ex} (h':0≤v.size):0≤(cG m u v).size:=by
 unfold cG;split
 ·decide
 ·split
  ·decide
  ·split
   ·split<;>assumption
   ·dsimp only;split
    ·exact oE 0
    ·simp only[bN];omega
def Bw (u:Ex):Ex:=⟨u.nan,u.inf,!u.neg,u.size,u.power⟩
theorem NL (u:Ex):(Bw u).kind=turned u.kind:=by
 unfold Bw Ex.kind turned bK;cases u.nan<;>cases u.inf<;>cases u.neg<;>simp
def fX (u:Ex) (k:Int):Ex:=⟨u.nan,u.inf,u.neg,u.size,u.power+k⟩
theorem NM (t:Fmt) (m:Mode) (u:Ex) (k:Int):t.ofKind m (fX u k).kind=(match u.kind with
 | .nan=>t.nan
 | .inf s=>t.inf s
 | .num s q=>t.put m s (q*two k)):=by
 cases hn:u.nan
 ·cases hi:u.inf
  ·rw[bH hn hi];show t.ofKind m (fX u k).kind=t.put m u.neg _;rw[bH (u:=fX u k) hn hi];show t.put m u.neg _=_;rw[mB];show t.put m u.neg (bK u.neg ((u.size:Rat)*two (u.power+k)))=_;rw[aY,bV]
  ·rw[cU hn hi,cU (u:=fX u k) hn hi];rfl
 ·rw[fI hn,fI (u:=fX u k) hn];rfl
theorem add_eq (t:Fmt) (m:Mode) {x y:Nat} (hx:x<2*t.sign) (hy:y<2*t.sign):t.ofKind m (cG m (ta t x) (ta t y)).kind=t.add m x y:=by
 rw[qd t m (gi t x Kf).1 (gi t y Kf).1,cX t x hx,cX t y hy];rfl
theorem sub_eq (t:Fmt) (m:Mode) {x y:Nat} (hx:x<2*t.sign) (hy:y<2*t.sign):t.ofKind m (cG m (ta t x) (Bw (ta t y))).kind=t.sub m x y:=by
 rw[qd t m (gi t x Kf).1 (show 0≤(Bw (ta t y)).size from (gi t y Kf).1),NL,cX t x hx,cX t y hy];rfl
theorem mul_eq (t:Fmt) (m:Mode) {x y:Nat} (hx:x<2*t.sign) (hy:y<2*t.sign):t.ofKind m (gr (ta t x) (ta t y)).kind=t.mul m x y:=by
 rw[nQ,cX t x hx,cX t y hy];rfl
theorem Tz (t:Fmt) (m:Mode) {x y z:Nat} (hx:x<2*t.sign) (hy:y<2*t.sign) (hz:z<2*t.sign):t.ofKind m (cG m (gr (ta t x) (ta t y)) (ta t z)).kind=t.fma m x y z:=by
 rw[qd t m (WN (gi t x Kf).1 (gi t y Kf).1) (gi t z Kf).1,nQ,cX t x hx,cX t y hy,cX t z hz];rfl
theorem NN (t:Fmt) (m:Mode) {x:Nat} (k:Int) (hx:x<2*t.sign):t.ofKind m (fX (ta t x) k).kind=t.scale m x k:=by
 rw[NM,cX t x hx];rfl
theorem Qk (t u:Fmt) (m:Mode) {x:Nat} (hx:x<2*t.sign):u.ofKind m (ta t x).kind=t.to u m x:=by
 rw[cX t x hx];rfl
end BF
namespace BF
open Lw
def Repr (t:Fmt) (q:Rat) (X:Nat):Prop:=(X:Int)<bE t∧q=(gv t X:Rat)*two (az t)
theorem Bx (t:Fmt) (h:Ok t) {c j:Nat} (h1:c≤2^(t.m+1)) (h2:0<j→2^t.m≤c) (h3:(c:Rat)*two (az t+j)<two (t.bias+1)):Repr t ((c:Rat)*two (az t+j)) (j*2^t.m+c):=by
 have k:=sV t h (c:=c) (j:=j) rfl h1 h2;have hc:((j*2^t.m+c:Nat):Int)=(j:Int)*2^t.m+c:=by rw[cJ,eR,bO]
 refine⟨?_,?_⟩
 ·rw[hc];have:¬bE t≤(j:Int)*2^t.m+c:=fun q=>by have:=k.mpr q;grind
  omega
 ·rw[rH t h1 h2,eD,aY,dJ];grind
theorem By (t:Fmt) (h:Ok t) {c:Nat} {v:Int} (h1:c<2^(t.m+1)) (hv:az t≤v) (h3:(c:Rat)*two v<two (t.bias+1)):∃X,Repr t ((c:Rat)*two v) X:=by
 by_cases h0:c=0
 ·subst h0;refine⟨0,by have:=gh t h;omega,?_⟩;rw[mC];show (0:Rat)*_=0*_;rw[bF,bF]
 ·have a1:=Ah h0;have a2:=@vJ c;have hk:c.log2≤t.m:=by
   have:=(Nat.pow_lt_pow_iff_right (a:=2) J9).mp (Nat.lt_of_le_of_lt a1 h1);omega
  obtain⟨s,hs⟩:∃s:Nat,(s:Int)=min ((t.m:Int)-c.log2) (v-az t):=⟨(min ((t.m:Int)-c.log2) (v-az t)).toNat,Kf⟩;obtain⟨j,hj⟩:=aA (show 0≤v-s-az t by omega);have e:(c:Rat)*two v=((c*2^s:Nat):Rat)*two (az t+j):=by
   rw[eD,←dJ,bV,←aY,show (s:Int)+(az t+j)=v by omega]
  rw[e] at h3 ⊢;refine⟨_,Bx t h ?_ ?_ h3⟩
  ·have:c*2^s<2^(c.log2+1)*2^s:=DE a2 (cV _);rw[←eC] at this;exact mw (b5 this (fb J9 Kf))
  ·intro q;have:2^c.log2*2^s≤c*2^s:=vW _ a1;rw[←eC] at this;exact bZ (fb J9 Kf) this
theorem mj (t:Fmt) (h:Ok t) {c:Nat} (h1:c≤2^(t.m+1)):∃X,Repr t (c:Rat) X:=by
 have hb:=Bo t h;have hl:az t≤0:=by unfold az Fmt.leastExp;have:=h.mb;omega
 have top:((2^(t.m+1):Nat):Rat)<two (t.bias+1):=by rw[←dJ];exact Ap (by have:=h.mb;omega)
 by_cases q:c<2^(t.m+1)
 ·have e:(c:Rat)=(c:Rat)*two 0:=by rw[de,cC]
  rw[e];refine By t h q hl ?_;rw[de,cC];have:=dP.mpr h1;grind
 ·have q':c=2^(t.m+1):=by omega
  have e:(c:Rat)=((2^t.m:Nat):Rat)*two 1:=by rw[q',←dJ,←dJ,←aY];congr 1
  rw[e];refine By t h (Nat.pow_lt_pow_right J9 Kf) Kf ?_;rw[←e,q'];exact top
theorem kL {t:Fmt} (h:Ok t) {q:Rat} {X:Nat} (r:Repr t q X) (m:Mode) (neg:Bool):t.put m neg (bK neg q)=pat t neg X:=by
 rw[r.2];exact uS t h m neg r.1
theorem mF {t:Fmt} {q:Rat} {X:Nat} (r:Repr t q X) (neg:Bool):t.kind (pat t neg X)=.num neg (bK neg q):=by
 rw[r.2];exact mi t neg r.1
theorem qe {t:Fmt} {q:Rat} {X:Nat} (r:Repr t q X):0≤q:=by
 rw[r.2];exact pM DH (cz (two_pos _))
def nR (t:Fmt):Int:=aU t+bE t+2^(t.m-1)
theorem dM (t:Fmt):(t.nan:Int)=nR t:=by
 unfold Fmt.nan nR bE;rw[kK,rE,bO];simp
theorem E6 (t:Fmt) (h:Ok t):(2:Int)^t.m=2*2^(t.m-1):=by
 obtain⟨k,hk⟩:∃k,t.m=k+1:=⟨t.m-1,by have:=h.m1;omega⟩;rw[hk,gy,lz,iJ]
theorem Ql (t:Fmt):bE t+2^t.m=aU t:=by
 unfold bE aU;rw[ji,nH];omega
theorem Ih (t:Fmt) (h:Ok t):∃X:Nat,t.nan=pat t true X∧(X:Int)<aU t∧bE t<X:=by
 have h1:=gh t h;have h2:=E6 t h;have h3:=Ql t;have h4:=aX (t.m-1);refine⟨(bE t+2^(t.m-1)).toNat,i5 ?_,Kf,Kf⟩;show (t.nan:Int)=((pat t true _:Nat):Int);rw[kj,dM];unfold nR ws;simp only[aJ];omega
theorem wa (t:Fmt) (h:Ok t) (neg:Bool):t.inf neg=pat t neg (bE t).toNat:=by
 refine i5 ?_;show (t.inf neg:Int)=((pat t neg _:Nat):Int);have:=gh t h;rw[kj,xQ];unfold ws;cases neg<;>simp<;>omega
theorem jR (t:Fmt) (neg:Bool):t.zero neg=pat t neg 0:=by unfold Fmt.zero Fmt.pack pat;simp
theorem iD (t:Fmt) (neg:Bool) {X:Nat} (h:(X:Int)<aU t):t.isNan (pat t neg X)=decide (bE t<X):=by
 unfold Fmt.isNan;rw[gP t neg h];split
 ·next q=>simp[Kind.isNan];omega
 ·split
  ·next q=>simp[Kind.isNan];omega
  ·next q=>simp[Kind.isNan];omega
def Out (t:Fmt) (x:Nat):Prop:=∃s X,x=pat t s X∧((X:Int)≤bE t∨x=t.nan)
theorem ez {t:Fmt} (h:Ok t) {x:Nat} (o:Out t x):x<2*t.sign:=by
 obtain⟨s,X,rfl,q⟩:=o;rcases q with q | q
 ·exact lR t s (qX q (dB t))
 ·obtain⟨Y,e,hY,_⟩:=Ih t h;rw[q,e];exact lR t _ hY
theorem Qm {t:Fmt} {x:Nat} (o:Out t x) (n:t.isNan x=true):x=t.nan:=by
 obtain⟨s,X,rfl,q⟩:=o;rcases q with q | q
 ·rw[iD t s (qX q (dB t))] at n;have:=eU n;omega
 ·exact q
theorem lg (t:Fmt) (h:Ok t) (m:Mode) (neg:Bool) (q:Rat):Out t (t.put m neg q):=by
 obtain⟨s,X,e,hX⟩:=F6 t h m neg q;exact⟨s,X,e,.inl hX⟩
theorem gd (t:Fmt) (h:Ok t):Out t t.nan:=by
 obtain⟨X,e,_⟩:=Ih t h;exact⟨_,X,e,.inr rfl⟩
theorem lh (t:Fmt) (h:Ok t) (neg:Bool):Out t (t.inf neg):=⟨neg,_,wa t h neg,.inl (by have:=gh t h;omega)⟩
theorem o4 (t:Fmt) (h:Ok t) (neg:Bool):Out t (t.zero neg):=⟨neg,0,jR t neg,.inl (by have:=gh t h;omega)⟩
theorem fq (t:Fmt) (h:Ok t) (m:Mode) (k:Kind):Out t (t.ofKind m k):=by
 cases k with
 | nan=>exact gd t h
 | inf s=>exact lh t h s
 | num s q=>exact lg t h m s q
theorem fL (t:Fmt) (h:Ok t) (m:Mode) (a b:Kind):Out t (t.addKinds m a b):=by
 cases a<;>cases b<;>simp only[Fmt.addKinds]<;>(try split)<;>first | exact gd t h | exact lh t h _ | exact lg t h m _ _
def Qn (t:Fmt) (m:Mode) (u v:Ex):Int :=
 if (u.nan||v.nan||(u.inf&&v.inf)||(bC u&&bC v))=true then nR t
 else if (u.inf||bC v)=true then ws t (u.neg != v.neg) (bE t)
 else if v.inf=true then ws t (u.neg != v.neg) 0
 else Bp t m (u.neg != v.neg) u.size v.size (u.power-v.power)
theorem lS (t:Fmt) (neg:Bool):(t.inf neg:Int)=ws t neg (bE t):=by rw[xQ];unfold ws;cases neg<;>simp;omega
theorem o5 (t:Fmt) (neg:Bool):(t.zero neg:Int)=ws t neg 0:=by rw[E4];unfold ws;cases neg<;>simp
theorem Ii (s r:Bool) (a b:Rat):bK s a/bK r b=bK (s != r) (a/b):=by
 have hi:∀c:Rat,(-c)⁻¹=-(c⁻¹):=fun c=>by
  by_cases h:c=0
  ·subst h;rw[Rat.neg_zero,Rat.inv_zero,Rat.neg_zero]
  ·exact pP (by rw[qR,Rat.mul_neg,nB];exact F5 c h)
 unfold bK;cases s<;>cases r<;>simp[bQ,hi]<;>grind
theorem div_eq (t:Fmt) (h:Ok t) (m:Mode) {x y:Nat} (hx:x<2*t.sign) (hy:y<2*t.sign):(t.div m x y:Int)=Qn t m (ta t x) (ta t y):=by
 have su:=(gi t x Kf).1;have sv:=(gi t y Kf).1;unfold Fmt.div;rw[←cX t x hx,←cX t y hy];generalize ta t x=u at *;generalize ta t y=v at *;unfold Qn bC;cases eM:u.nan
 ·cases iK:v.nan
  ·cases eT:u.inf
   ·cases iL:v.inf
    ·rw[bH eM eT,bH iK iL];simp only[eS,lJ,aO,aM,fR,DG,fJ,val_zero];by_cases qv:v.size=0
     ·by_cases qu:u.size=0
      ·simp[qu,qv,dM]
      ·simp[qu,qv,lS]
     ·simp only[qv,k7,uA,aO,aM];have Qo:0<v.size:=by omega
      rw[←v7 t h m _ su Qo,Ii];congr 3;rw[bQ,Bn,bQ];have:(two v.power)⁻¹=two (-v.power):=pP (by rw[e9];exact oV _);rw[this,show u.power-v.power=u.power+-v.power by omega,aY];grind
    ·rw[bH eM eT,cU iK iL];simp[o5]
   ·cases iL:v.inf
    ·rw[bH iK iL,cU eM eT];simp[lS]
    ·rw[cU eM eT,cU iK iL];simp[dM]
  ·rw[fI iK];cases eT:u.inf
   ·rw[bH eM eT];simp[dM]
   ·rw[cU eM eT];simp[dM]
 ·rw[fI eM];simp[dM]
def rJ (u v:Ex):Ex :=
 let p:=min u.power v.power;let n:=(cnt u p).natAbs;let d:=(cnt v p).natAbs;let left:=(n:Int)-d*wq .near false n d
 if left<0 then bN (!u.neg) (-left) p else bN u.neg left p
theorem o7 {u:Ex} {p:Int} (h:p≤u.power) (hu:0≤u.size):(((cnt u p).natAbs:Int):Rat)*two p=(u.size:Rat)*two u.power∧(((cnt u p).natAbs:Int)=u.size*2^(u.power-p).toNat):=by
 have e0:((cnt u p).natAbs:Int)=u.size*2^(u.power-p).toNat:=by
  unfold cnt;exact Br _ (fE hu (bo (aX _)))
 refine⟨?_,e0⟩;rw[e0,bh,←cW (show 0≤u.power-p by omega),bV,←aY,show u.power-p+p=u.power by omega]
theorem Qp (neg ZG:Bool) (n d:Int):wq .near neg n d=wq .near ZG n d:=rfl
theorem KQ (t:Fmt) {u v:Ex} (hu:0≤u.size) (hv:0<v.size) :
  t.ofKind .near (rJ u v).kind=t.put .near u.neg (bK u.neg ((u.size:Rat)*two u.power)-(nearestEven (bK u.neg ((u.size:Rat)*two u.power)/bK v.neg ((v.size:Rat)*two v.power)):Rat)*bK v.neg ((v.size:Rat)*two v.power)):=by
 unfold rJ;dsimp only;have ⟨a1,a2⟩:=o7 (u:=u) (p:=min u.power v.power) Kf hu;have ⟨b1,b2⟩:=o7 (u:=v) (p:=min u.power v.power) Kf (Int.le_of_lt hv);have dp:0<((cnt v (min u.power v.power)).natAbs:Int):=by rw[b2];exact Int.mul_pos hv (aX _)
 generalize min u.power v.power=p at *;have np:0≤((cnt u p).natAbs:Int):=by omega
 generalize ((cnt u p).natAbs:Int)=n at *;generalize ((cnt v p).natAbs:Int)=d at *;rw[←a1,←b1];have e1:bK u.neg ((n:Rat)*two p)/bK v.neg ((d:Rat)*two p)=bK (u.neg != v.neg) ((n:Rat)/d):=by
  rw[Ii];congr 1;rw[bQ,Bn,bQ];have:=F5 (two p) (jk p);grind
 have e2:nearestEven (bK (u.neg != v.neg) ((n:Rat)/d))=eH (u.neg != v.neg) (wq .near false n d):=by
  have:=rD .near (u.neg != v.neg) dp np;rw[Qp _ false] at this;exact this
 rw[e1,e2];generalize wq .near false n d=W at *;have e3:bK u.neg ((n:Rat)*two p)-((eH (u.neg != v.neg) W:Int):Rat)*bK v.neg ((d:Rat)*two p)=bK u.neg (((n-d*W:Int):Rat)*two p):=by
  rw[nr,bh];unfold bK eH;cases u.neg<;>cases v.neg<;>simp<;>grind
 rw[e3];generalize hl:n-d*W=l at *;split
 ·next q =>
  unfold bN;rw[bH rfl rfl];have e4:bK (!u.neg) (((-l:Int):Rat)*two p)=bK u.neg ((l:Rat)*two p):=by
   rw[iF];unfold bK;cases u.neg<;>simp<;>grind
  show t.put .near (!u.neg) (bK (!u.neg) (((-l:Int):Rat)*two p))=_;rw[e4];refine kX t _ _ _ ?_;rw[Ne,dF,jg];rintro(w | w)
  ·have:=jx.mp w;omega
  ·exact jk _ w
 ·unfold bN;rw[bH rfl rfl];rfl
end BF
namespace BF
open Lw
theorem rest_eq (t:Fmt) (h:Ok t) {x y:Nat} (hx:x<2*t.sign) (hy:y<2*t.sign):t.remainder x y =
  (if ((ta t x).nan||(ta t y).nan||(ta t x).inf||bC (ta t y))=true then t.nan else if (ta t y).inf=true then x else t.ofKind .near (rJ (ta t x) (ta t y)).kind):=by
 have su:=(gi t x Kf).1;have sv:=(gi t y Kf).1;have kx:=cX t x hx;unfold Fmt.remainder;rw[←kx,←cX t y hy];generalize hu:ta t x=u at *;generalize ta t y=v at *;unfold bC;cases eM:u.nan
 ·cases iK:v.nan
  ·cases eT:u.inf
   ·cases iL:v.inf
    ·rw[bH eM eT,bH iK iL];simp only[eS,lJ,aO,aM,fR,fJ,val_zero,bj];by_cases qv:v.size=0
     ·rw[ao qv,ao qv]
     ·rw[ag qv,ag qv,KQ t su Kf]
    ·rw[bH eM eT,cU iK iL];simp only[eS,lJ,aO,aM,fR,vy,ib,uA,aJ];have ⟨e,hX⟩:=jl t x hx;generalize t.neg x=sg at *;generalize x%t.sign=X at *;subst e;have hk:=gP t sg hX;rw[←kx,bH eM eT] at hk;split at hk
     ·next q =>
      injection hk with e1 e2
      rw[e1] at e2 ⊢;rw[e2];exact uS t h _ _ q
     ·split at hk<;>cases hk
   ·cases iL:v.inf
    ·rw[bH iK iL,cU eM eT];simp
    ·rw[cU eM eT,cU iK iL];simp
  ·rw[fI iK];cases eT:u.inf
   ·rw[bH eM eT];simp
   ·rw[cU eM eT];simp
 ·rw[fI eM];simp
theorem Bz {a b:Int} (k:Int):(a:Rat)*two k<(b:Rat)*two k↔a<b:=by rw[cq,mz]
theorem Ij (s:Bool) (g:Nat) (k:Int):bK s ((g:Rat)*two k)=((eH s (g:Int):Int):Rat)*two k:=by
 unfold bK eH;cases s
 ·simp only[aO,aM,bu]
 ·simp only[aJ,iF,bu,qR]
theorem TB {s r:Bool} {X Y gX gY:Nat} (h:gX<gY↔X<Y) (h':gY<gX↔Y<X) (z1:gX=0↔X=0) (z2:gY=0↔Y=0):eH s (gX:Int)<eH r (gY:Int)↔eH s (X:Int)<eH r (Y:Int):=by
 unfold eH;cases s<;>cases r<;>simp<;>omega
theorem qf (t:Fmt) (h:Ok t) (s r:Bool) {X Y:Nat} (hX:(X:Int)≤bE t) (hY:(Y:Int)≤bE t):t.below (pat t s X) (pat t r Y)=decide (eH s X<eH r Y):=by
 have hs:=dB t;have hi:=gh t h;unfold Fmt.below;rw[gP t s Kf,gP t r Kf];by_cases qx:(X:Int)<bE t
 ·rw[ao qx];by_cases qy:(Y:Int)<bE t
  ·rw[ao qy];simp only[belowKinds];rw[Ij,Ij];congr 1;rw[Bz,TB (uR t) (uR t) (nP t) (nP t)]
  ·rw[ag qy,ao Kf];simp only[belowKinds];cases r<;>cases s<;>simp[eH]<;>omega
 ·rw[ag qx,ao Kf];by_cases qy:(Y:Int)<bE t
  ·rw[ao qy];simp only[belowKinds];cases r<;>cases s<;>simp[eH]<;>omega
  ·rw[ag qy,ao Kf];simp only[belowKinds];cases r<;>cases s<;>simp[eH]<;>omega
def place (t:Fmt) (x:Int):Int:=if bE t<x%aU t then bE t+1 else if aU t≤x then -(x%aU t)-1 else x%aU t
theorem qg (t:Fmt) (s:Bool) {X:Nat} (h:(X:Int)<aU t):place t (pat t s X)=if bE t<X then bE t+1 else if s=true then -(X:Int)-1 else X:=by
 have ⟨h1,h2⟩:=iC (neg:=s) h;unfold place;rw[h1];cases s
 ·have:=lM h2;rw[ag this];rfl
 ·have:=eU h2;rw[ao this];rfl
theorem mG (t:Fmt) (h:Ok t) {x y:Nat} (hx:x<2*t.sign) (hy:y<2*t.sign):t.before x y=decide (place t x<place t y):=by
 have ⟨ex,hX⟩:=jl t x hx;have ⟨ey,hY⟩:=jl t y hy;generalize t.neg x=s at *;generalize x%t.sign=X at *;generalize t.neg y=r at *;generalize y%t.sign=Y at *;subst ex ey;rw[qg t s hX,qg t r hY];unfold Fmt.before Fmt.equal;rw[iD t s hX,iD t r hY];have hi:=gh t h;by_cases qx:bE t<(X:Int)
 ·simp only[qx,Cp,aJ];split
  ·simp
  ·cases r<;>simp<;>omega
 ·simp only[qx,k7,aO,aM,fR,fJ];by_cases qy:bE t<(Y:Int)
  ·simp only[qy,Cp,aJ];cases s<;>simp<;>omega
  ·simp only[qy,k7,aO,aM,fR,fJ];rw[qf t h s r Kf Kf,qf t h r s Kf Kf,v8 hX,v8 hY];cases s<;>cases r<;>simp[eH]<;>grind
theorem KR (t:Fmt) (h:Ok t) (s:Bool) {X:Nat} (hX:(X:Int)<aU t):t.canon (pat t s X)=if bE t<(X:Int) then t.nan else pat t s X:=by
 unfold Fmt.canon;rw[gP t s hX];by_cases q:(X:Int)<bE t
 ·rw[ao q,ag Kf];exact uS t h _ _ q
 ·rw[ag q];by_cases q2:(X:Int)=bE t
  ·rw[ao q2,ag Kf];show t.inf s=_;rw[wa t h];congr 1;omega
  ·rw[ag q2,ao Kf];rfl
def cp (t:Fmt) (x:Int):Bool:=decide (bE t<x%aU t)
theorem i9 (t:Fmt) {x:Nat} (hx:x<2*t.sign):cp t x=t.isNan x:=by
 have ⟨ex,hX⟩:=jl t x hx;generalize t.neg x=s at *;generalize x%t.sign=X at *;subst ex;rw[iD t s hX];unfold cp;rw[(iC (neg:=s) hX).1]
theorem sW (t:Fmt) (h:Ok t) {x:Nat} (hx:x<2*t.sign):t.canon x=if cp t x=true then t.nan else x:=by
 have e:=i9 t hx;have ⟨ex,hX⟩:=jl t x hx;generalize t.neg x=s at *;generalize x%t.sign=X at *;subst ex;rw[e,KR t h s hX,iD t s hX];by_cases q:bE t<(X:Int)<;>simp[q]
theorem uV {t:Fmt} {x:Int} (h:cp t x=true):place t x=bE t+1:=by
 unfold place cp at *;rw[ao (eU h)]
theorem BA {t:Fmt} {x:Int} (hs:0<aU t) (h:cp t x=false):place t x≤bE t:=by
 unfold place cp at *;have h1:=lM h;rw[ag h1];have:=pK x (jw hs);split<;>omega
theorem BB (t:Fmt) (h:Ok t) {x y:Nat} (hx:x<2*t.sign) (hy:y<2*t.sign):t.min x y =
  (if (cp t x||cp t y)=true then (if cp t x=false then x else if cp t y=true then t.nan else y) else if place t x≤place t y then x else y):=by
 unfold Fmt.min;rw[mG t h hy hx,sW t h hx,sW t h hy];have hs:0<aU t:=aX _;cases qx:cp t x
 ·have a:=BA hs qx;cases qy:cp t y
  ·simp;by_cases q:place t x≤place t y
   ·rw[ao q,ag Kf]
   ·rw[ag q,ao Kf]
  ·have b:=uV qy;simp;omega
 ·have a:=uV qx;cases qy:cp t y
  ·have b:=BA hs qy;simp;omega
  ·have b:=uV qy;simp
theorem yO (t:Fmt) (h:Ok t) {x y:Nat} (hx:x<2*t.sign) (hy:y<2*t.sign):t.max x y =
  (if (cp t x||cp t y)=true then (if cp t x=false then x else if cp t y=true then t.nan else y) else if place t y≤place t x then x else y):=by
 unfold Fmt.max;rw[mG t h hx hy,sW t h hx,sW t h hy,←i9 t hx,←i9 t hy];cases qx:cp t x
 ·cases qy:cp t y
  ·simp;by_cases q:place t y≤place t x
   ·rw[ao q,ag Kf]
   ·rw[ag q,ao Kf]
  ·simp
 ·cases qy:cp t y<;>simp
def ic (t:Fmt) (x:Int) (neg:Bool):Int:=if cp t x=true then nR t else ws t neg (x%aU t)
theorem uW (t:Fmt) (x:Nat):((x%t.sign:Nat):Int)=(x:Int)%aU t:=by rw[←dX];rfl
theorem abs_eq (t:Fmt) {x:Nat} (hx:x<2*t.sign):(t.abs x:Int)=ic t x false:=by
 unfold Fmt.abs ic;rw[i9 t hx];cases t.isNan x
 ·simp only[aO,aM,uW];unfold ws;simp
 ·simp only[aJ,dM]
theorem Ik (t:Fmt) {x:Nat} (hx:x<2*t.sign):decide (aU t≤(x:Int))=t.neg x:=(Bs (parts t x hx)).2
theorem negate_eq (t:Fmt) {x:Nat} (hx:x<2*t.sign):(t.negate x:Int)=ic t x (!decide (aU t≤(x:Int))):=by
 unfold Fmt.negate ic;rw[i9 t hx,Ik t hx];cases t.isNan x
 ·simp only[aO,aM];have ⟨ex,hX⟩:=jl t x hx;have e:=iC (neg:=t.neg x) hX;rw[←ex] at e;have hs:=dX t;rw[e.1];cases q:t.neg x
  ·rw[q] at ex;unfold pat at ex;simp only[aO,aM,lD] at ex;unfold ws;simp;omega
  ·rw[q] at ex;unfold pat at ex;simp only[aJ] at ex;unfold ws;simp;omega
 ·simp only[aJ,dM]
theorem KS (t:Fmt) {x y:Nat} (hx:x<2*t.sign) (hy:y<2*t.sign):(t.signOf x y:Int)=ic t x (decide (aU t≤(y:Int))&&!cp t y):=by
 unfold Fmt.signOf ic;rw[i9 t hx,i9 t hy,Ik t hy];cases t.isNan x
 ·simp only[aO,aM,cJ,uW];unfold ws;have:=dX t;cases t.neg y<;>cases t.isNan y<;>simp[this]
 ·simp only[aJ,dM]
def eA (t:Fmt) (x:Int):Bool:=decide (x%aU t=0)
def E7 (t:Fmt) (how:Nat) (x y:Int):Int :=
 if how=0∧(cp t x=true∨cp t y=true) then 2
 else if how=0∧eA t x=true∧eA t y=true then 0
 else if place t x=place t y then 0
 else if place t x<place t y then -1 else 1
theorem TC (t:Fmt) (h:Ok t) {x y:Nat} {how:Nat} (hh:how≤1) (hx:x<2*t.sign) (hy:y<2*t.sign):NumCalls.cmpOf t how x y=some (E7 t how x y):=by
 have hi:=gh t h;by_cases q:how=0
 ·subst q;unfold NumCalls.cmpOf E7;simp only[true_and];rw[i9 t hx,i9 t hy];have ⟨ex,hX⟩:=jl t x hx;have ⟨ey,hY⟩:=jl t y hy;generalize t.neg x=s at *;generalize x%t.sign=X at *;generalize t.neg y=r at *;generalize y%t.sign=Y at *;subst ex ey;rw[qg t s hX,qg t r hY,iD t s hX,iD t r hY];unfold eA;rw[(iC (neg:=s) hX).1,(iC (neg:=r) hY).1];by_cases qx:bE t<(X:Int)
  ·simp[qx]
  ·by_cases qy:bE t<(Y:Int)
   ·simp[qy]
   ·simp only[qx,qy,k7,aO,or_self,aM];rw[qf t h s r Kf Kf,qf t h r s Kf Kf];simp only[bj];congr 1;cases s<;>cases r<;>simp[eH]<;>grind
 ·have q:how=1:=by omega
  subst q;unfold NumCalls.cmpOf E7;rw[mG t h hx hy,mG t h hy hx];simp;grind
def dn (m:Mode) (u:Ex):Int:=if 0≤u.power then u.size*2^u.power.toNat else wq m u.neg u.size (2^(-u.power).toNat)
theorem mH (m:Mode) {u:Ex} (hu:0≤u.size):wholeBy m (bK u.neg ((u.size:Rat)*two u.power))=eH u.neg (dn m u)∧0≤dn m u:=by
 unfold dn;split
 ·next q =>
  have n0:0≤u.size*2^u.power.toNat:=fE hu (bo (aX _));have e:(u.size:Rat)*two u.power=((u.size*2^u.power.toNat:Int):Rat)/((1:Int):Rat):=by
   rw[bh,←cW q];show _=_/(1:Rat);rw[bQ];grind
  rw[e,rD m u.neg J9 n0,Ms];exact⟨rfl,n0⟩
 ·next q =>
  have e:(u.size:Rat)*two u.power=(u.size:Rat)/((2^(-u.power).toNat:Int):Rat):=by
   rw[←cW (show 0≤-u.power by omega),k8];congr 2;omega
  rw[e,rD m u.neg (aX _) hu];exact⟨rfl,uP (aX _) hu⟩
theorem kl (s:Bool) (z:Int):bK s (z:Rat)=((eH s z:Int):Rat):=by
 unfold bK eH;cases s<;>simp[iF]
theorem F7 (t:Fmt) (m:Mode) {u:Ex} (hu:0≤u.size) (h2:u.size<2^(t.m+1)) (hp:u.power<0):dn m u≤2^(t.m+1):=by
 unfold dn;rw[ag Kf];refine F4 (aX _) ?_;refine dY.mp fun z=>?_;rw[Hg (eW.mpr (aX _)),←bh,mz] at z;have:(2:Int)^(t.m+1)*1≤2^(t.m+1)*2^(-u.power).toNat:=qB (by have:=aX (-u.power).toNat;omega) (bo (aX _));omega
theorem yQ (t:Fmt) (h:Ok t) (m:Mode) {x:Nat} (hx:x<2*t.sign):t.toWhole m x =
  (if ((ta t x).nan||(ta t x).inf)=true then t.ofKind m (ta t x).kind else t.ofKind m (bN (ta t x).neg (dn m (ta t x)) 0).kind):=by
 have ⟨su,ZI⟩:=gi t x Kf;have kx:=cX t x hx;unfold Fmt.toWhole;rw[←kx];have ⟨ex,hX⟩:=jl t x hx;have hk:=gP t (t.neg x) hX;rw[←ex,←kx] at hk;generalize hu:ta t x=u at *;cases eM:u.nan
 ·cases eT:u.inf
  ·have ⟨w1,w2⟩:=mH m su;rw[bH eM eT];simp only[eS,aO,aM];rw[w1];unfold bN;rw[bH rfl rfl];show t.put .near u.neg _=t.put m u.neg (bK u.neg ((dn m u:Rat)*two 0));rw[de,cC,←kl];obtain⟨X,r⟩:∃X,Repr t (dn m u:Rat) X:=by
    by_cases hp:0≤u.power
    ·rw[bH eM eT] at hk;split at hk
     ·next q =>
      injection hk with e1 e2
      refine⟨_,q,?_⟩;have e3:(dn m u:Rat)=(u.size:Rat)*two u.power:=by unfold dn;rw[ao hp,bh,cW hp]
      rw[e3];rw[e1] at e2;unfold bK at e2;cases q2:t.neg x
      ·rw[q2] at e2;simpa using e2
      ·rw[q2] at e2;simp only[aJ] at e2;grind
     ·split at hk<;>cases hk
    ·have b:=F7 t m su ZI Kf;have e4:(dn m u:Rat)=(((dn m u).toNat:Nat):Rat):=by rw[←bu];exact rz.mpr Kf
     rw[e4];refine mj t h ?_;have:=bO (t.m+1);omega
   rw[kL h r .near,kL h r m]
  ·rw[cU eM eT];simp[Fmt.ofKind]
 ·rw[fI eM];simp[Fmt.ofKind]
theorem toInt_eq (t:Fmt) (m:Mode) (bits:Nat) (sign:Bool) {x:Nat} (hx:x<2*t.sign):t.toInt m bits sign x =
  (if (ta t x).nan=true then 0 else if (ta t x).inf=true then (if (ta t x).neg=true then least bits sign else most bits sign) else held bits sign (eH (ta t x).neg (dn m (ta t x)))):=by
 have ⟨su,ZI⟩:=gi t x Kf;unfold Fmt.toInt;rw[←cX t x hx];generalize ta t x=u at *;cases eM:u.nan
 ·cases eT:u.inf
  ·rw[bH eM eT];simp[(mH m su).1]
  ·rw[cU eM eT];simp
 ·rw[fI eM];simp
def gI (z:Int):Ex:=bN (decide (z<0)) z.natAbs 0
theorem KU (z:Int):(gI z).kind=.num (decide (z<0)) (z:Rat):=by
 unfold gI;by_cases h:z=0
 ·subst h;unfold bN;rw[bH rfl rfl];simp only[bK];show Kind.num false ((0:Rat)*two 0)=Kind.num false 0;rw[bF]
 ·rw[k9 h,de,cC]
theorem E8 (t:Fmt) (m:Mode) (z:Int):t.ofKind m (gI z).kind=t.ofInt m z:=by
 rw[KU];show t.put m _ _=t.put m _ _;by_cases h:z=0
 ·subst h;rfl
 ·exact kX t m _ _ fun q=>h (jx.mp q)
end BF
namespace BF
open Lw
theorem wb {a b:Nat}:a≤b↔a*a≤b*b:=by
 constructor
 ·intro h;exact DF h h
 ·intro h;refine DI fun q=>?_;have:=J8 q (mw q) Kf;omega
theorem oo (n:Nat):∀(k lo:Nat),lo*lo≤n→n<(lo+2^k)*(lo+2^k)→rootNat n k lo*rootNat n k lo≤n∧n<(rootNat n k lo+1)*(rootNat n k lo+1)
 | 0,lo,h1,h2=>⟨h1,h2⟩
 | k+1,lo,h1,h2=>by
  unfold rootNat;split
  ·next q =>
   refine oo n k _ q ?_;rw[show lo+2^k+2^k=lo+2^(k+1) by rw[gW];omega];exact h2
  ·next q=>exact oo n k _ h1 Kf
theorem nS (n:Nat):∃r,rootNat n (Nat.log2 n/2+2) 0=r∧r*r≤n∧n<(r+1)*(r+1):=by
 refine⟨_,rfl,oo n _ 0 Kf ?_⟩;have h:=@vJ n;rw[lD,←eC];exact b5 h (fb J9 Kf)
theorem BC {n g:Nat} (hg:0<g):n<((g+n/g)/2+1)*((g+n/g)/2+1):=by
 have h1:=Nat.lt_mul_div_succ n hg;generalize n/g=k at *;generalize hh:(g+k)/2=h;have h2:g+(k+1)≤2*(h+1):=by omega
 have h3:(g+(k+1))*(g+(k+1))≤2*(h+1)*(2*(h+1)):=DF h2 h2;have h4:4*(g*(k+1))≤(g+(k+1))*(g+(k+1)):=by
  generalize k+1=b;rcases Nat.le_total g b with q | q
  ·obtain⟨d,rfl⟩:=Nat.le.dest q;have:(g+(g+d))*(g+(g+d))=4*(g*(g+d))+d*d:=by grind
   omega
  ·obtain⟨d,rfl⟩:=Nat.le.dest q;have:(b+d+b)*(b+d+b)=4*((b+d)*b)+d*d:=by grind
   omega
 have h5:2*(h+1)*(2*(h+1))=4*((h+1)*(h+1)):=by grind
 omega
theorem F8 {n g:Nat} (hg:0<g) (h:g≤(g+n/g)/2):g*g≤n:=by
 have h1:=Nat.mul_div_le n g;have h2:g≤n/g:=by generalize n/g=k at *;omega
 have h3:g*g≤g*(n/g):=Hs _ h2;omega
theorem BD {n r s:Nat} (h1:r*r≤n) (h2:n<(r+1)*(r+1)) (h3:s*s≤n) (h4:n<(s+1)*(s+1)):r=s:=by
 have a:¬r+1≤s:=fun q=>by have:=wb.mp q;omega
 have b:¬s+1≤r:=fun q=>by have:=wb.mp q;omega
 omega
theorem DT (m:Mode) {x v:Rat} (hv:0≤v) (H:∀a:Nat,((a:Rat)/2≤x↔(a:Rat)/2*((a:Rat)/2)≤v)∧((a:Rat)/2=x↔(a:Rat)/2*((a:Rat)/2)=v)) :
  wholeBy m x=(rootUnits m v:Int):=by
 unfold rootUnits;obtain⟨r,er,r1,r2⟩:=nS v.floor.toNat;simp only[er];have vf:0≤v.floor:=zr.mpr hv;have R1:((r*r:Nat):Rat)≤v:=by
  have:((r*r:Nat):Int)≤v.floor:=by omega
  have:=zr.mp this;rw[bu] at this;exact this
 have R2:v<(((r+1)*(r+1):Nat):Rat):=by
  have:v.floor<(((r+1)*(r+1):Nat):Int):=by omega
  have:=FO.mp this;rw[bu] at this;exact this
 have c0:((2*r:Nat):Rat)/2=(r:Rat):=by
  rw[eD];show (2:Rat)*r/2=r;rw[e9];exact Rat.mul_div_cancel J9
 have c1:((2*(r+1):Nat):Rat)/2=(r:Rat)+1:=by
  rw[eD,xA];show (2:Rat)*(r+1)/2=r+1;rw[e9];exact Rat.mul_div_cancel J9
 have ch:((2*r+1:Nat):Rat)/2=(r:Rat)+1/2:=by
  rw[xA,eD];show ((2:Rat)*r+1)/2=r+1/2;grind
 have A:=H (2*r);have B:=H (2*(r+1));have C:=H (2*r+1);rw[c0] at A;rw[c1] at B;rw[ch] at C;have rr:((r*r:Nat):Rat)=(r:Rat)*r:=eD r r;have ss:(((r+1)*(r+1):Nat):Rat)=((r:Rat)+1)*(r+1):=by rw[eD,xA];rfl
 rw[rr] at R1 ⊢;rw[ss] at R2;rw[ch];have x1:(r:Rat)≤x:=A.1.mpr R1;have x2:x<(r:Rat)+1:=by
  refine Rat.not_le.mp fun q=>?_;have:=B.1.mp q;grind
 have hr0:(0:Rat)≤(r:Rat):=DH;have x0:(0:Rat)≤x:=by grind
 have cr:(((r:Nat):Int):Rat)=(r:Rat):=bu r;have NO:((((r+1:Nat):Int)):Rat)=(r:Rat)+1:=by rw[bu,xA];rfl
 have fl:x.floor=(r:Int):=gK (by rw[cr];exact x1) (by rw[cr];exact x2);have eqv:(r:Rat)*r=v↔(r:Rat)=x:=A.2.symm;have hle:((r:Rat)+1/2)*((r:Rat)+1/2)≤v↔(r:Rat)+1/2≤x:=C.1.symm;have heq:((r:Rat)+1/2)*((r:Rat)+1/2)=v↔(r:Rat)+1/2=x:=C.2.symm;have oS:((r:Rat)+1/2)*((r:Rat)+1/2)<v↔(r:Rat)+1/2<x:=by
  rw[Rat.lt_iff_le_and_ne,Rat.lt_iff_le_and_ne,hle,Ne,heq]
 simp only[eqv,oS,heq,hle];have hf:(x+1/2).floor=if (r:Rat)+1/2≤x then ((r+1:Nat):Int) else (r:Int):=by
  split
  ·next q=>exact gK (by rw[NO];grind) (by rw[NO];grind)
  ·next q=>exact gK (by rw[cr];grind) (by rw[cr];grind)
 have hc:x.ceil=if (r:Rat)=x then (r:Int) else ((r+1:Nat):Int):=by
  split
  ·next q=>exact rC (by rw[cr];grind) (by rw[cr];grind)
  ·next q=>exact rC (by rw[NO];grind) (by rw[NO];grind)
 by_cases e0:(r:Rat)=x
 ·rw[ao e0];cases m
  ·simp only[wholeBy,nearestEven,hf];rw[ag (show ¬(r:Rat)+1/2≤x by grind)];rw[ag];intro z;have z1:=z.1;rw[cr] at z1;grind
  ·simp only[wholeBy,fl]
  ·simp only[wholeBy,hc,ao e0]
  ·simp only[wholeBy,ao x0,fl]
  ·simp only[wholeBy,nearestAway,ao x0,hf];rw[ag (by grind)]
 ·rw[ag e0];cases m
  ·simp only[wholeBy,nearestEven,hf];by_cases q:(r:Rat)+1/2≤x
   ·rw[ao q];by_cases q2:(r:Rat)+1/2=x
    ·have t1:((((r+1:Nat):Int)):Rat)=x+1/2:=by rw[NO];grind
     have t2:¬(r:Rat)+1/2<x:=by grind
     by_cases par:r%2=1
     ·rw[ag (fun z=>z.2 Kf),ao (Or.inr ⟨q2,par⟩)]
     ·rw[ao ⟨t1,Kf⟩,ag (by rintro(z | z);exact t2 z;exact par z.2)];omega
    ·have t1:¬((((r+1:Nat):Int)):Rat)=x+1/2:=by rw[NO];grind
     have t2:(r:Rat)+1/2<x:=by grind
     simp only[t1,false_and,aM,t2,true_or,aJ]
   ·rw[ag q];have t1:¬(((r:Nat):Int):Rat)=x+1/2:=by rw[cr];grind
    have t2:¬(r:Rat)+1/2<x:=by grind
    have t3:¬(r:Rat)+1/2=x:=by grind
    simp only[t1,false_and,aM,t2,t3,or_self]
  ·simp only[wholeBy,fl]
  ·simp only[wholeBy,hc,ag e0]
  ·simp only[wholeBy,ao x0,fl]
  ·simp only[wholeBy,nearestAway,ao x0,hf];split<;>rfl
theorem KW (t:Fmt) (h:Ok t) (m:Mode) {S N r more:Nat} {power shift w:Int} (hS:0<S) (hp:az t≤power) (hq:(S:Rat)*two power<two (t.bias+1))
  (hw:power-shift=2*w) (hs:2*(t.m:Int)+6≤shift) (hN:(N:Int)=S*2^shift.toNat)
  (r1:r*r≤N) (r2:N<(r+1)*(r+1)) (hm:more=if r*r=N then 0 else 1) :
  t.put m false (((2*r+more:Nat):Rat)*two (w-1))=t.make false (rootUnits m ((S:Rat)*two power/two (2*(Int.fdiv (log2 ((S:Rat)*two power)) 2-t.m)))) (Int.fdiv (log2 ((S:Rat)*two power)) 2-t.m):=by
 have ZJ:more≤1:=by rw[hm];split<;>omega
 have uH:(S:Rat)*two power=(N:Rat)*two (2*w):=by
  have:(N:Rat)=(S:Rat)*two shift:=by
   rw[←bu,hN,bh,←cW Kf,bu]
  rw[this,bV,←aY];congr 2;omega
 generalize ZK:(S:Rat)*two power=q at *;have key:∀A:Nat,(A≤r↔A*A≤N):=fun A=>by
  constructor
  ·intro z;exact bZ (wb.mp z) r1
  ·intro z;refine DI fun z2=>?_;have:=wb.mp (show r+1≤A from z2);omega
 have ZL:∀A:Nat,(2*A=2*r+more↔A*A=N):=fun A=>by
  constructor
  ·intro z;have:more=0∧A=r:=by omega
   obtain⟨z1,rfl⟩:=this;rw[z1] at hm;split at hm
   ·assumption
   ·omega
  ·intro z;have:A=r:=BD (n:=N) Kf (by have:=wb.mp (show A+1≤A+1 by omega);have:A*A<(A+1)*(A+1):=(by grind);omega) r1 r2;subst this;rw[hm,ao z];omega
 have r3:2^(t.m+3)≤r:=by
  rw[key];have h1:(2:Int)^(2*t.m+6)≤2^shift.toNat:=gO Kf;have h2:1*(2:Int)^shift.toNat≤S*2^shift.toNat:=i4 Kf (bo (aX _));rw[←eC,show t.m+3+(t.m+3)=2*t.m+6 by omega];have:=bO (2*t.m+6);omega
 generalize hQ:((2*r+more:Nat):Rat)*two (w-1)=Q;have hQ2:Q*2=((2*r+more:Nat):Rat)*two w:=by
  rw[←hQ,bV,show two (w-1)*2=two w by rw[←jA,←aY];congr 1;omega]
 have pw:∀k:Int,w≤k→(two k≤Q↔two (2*k)≤q):=fun k hk=>by
  obtain⟨a,ha⟩:=aA (show 0≤k-w by omega);have e1:two k=((2^a:Nat):Rat)*two w:=by rw[←dJ,←aY];congr 1;omega
  have e2:two (2*k)=((2^a*2^a:Nat):Rat)*two (2*w):=by rw[←eC,←dJ,←aY];congr 1;omega
  rw[e2,uH,cB,dP,←key];have:two k≤Q↔two k*2≤Q*2:=by constructor<;>intro z<;>grind
  rw[this,hQ2,e1,show ((2^a:Nat):Rat)*two w*2=((2*2^a:Nat):Rat)*two w by rw[eD];show _=2*_*_;grind];rw[cB,dP];omega
 have hr0:0<r:=b5 (cV _) r3;have ZM:0<Q:=by
  rw[←hQ];exact fC (qZ.mpr Kf) (two_pos _)
 have VA:0<q:=by rw[←ZK];exact fC (qZ.mpr hS) (two_pos _)
 have ⟨l1,l2⟩:=g6 ZM;have lw:w+(t.m:Int)+3≤log2 Q:=by
  have h1:two (w+t.m+3)≤Q:=by
   rw[pw _ Kf,uH];have e2:two (2*(w+t.m+3))=((2^(t.m+3)*2^(t.m+3):Nat):Rat)*two (2*w):=by rw[←eC,←dJ,←aY];congr 1;omega
   rw[e2,cB,dP,←key];exact r3
  have:=ee.mp (show two (w+t.m+3)<two (log2 Q+1) by grind);omega
 generalize hL:log2 Q=L at *;have b1:=(pw L Kf).mp l1;have b2:q<two (2*(L+1)):=Rat.not_le.mp fun z=>by have:=(pw (L+1) Kf).mpr z;grind
 have ⟨g1,g2⟩:=g6 VA;have lq:log2 q=2*L∨log2 q=2*L+1:=by
  have z1:=ee.mp (show two (2*L)<two (log2 q+1) by grind);have z2:=ee.mp (show two (log2 q)<two (2*(L+1)) by grind);omega
 have hfd:Int.fdiv (log2 q) 2=L:=by
  rw[EH _ J9];omega
 rw[hfd];have hle:az t=1-t.bias-t.m:=by unfold az Fmt.leastExp;omega
 have aeO:az t≤log2 q:=by
  have:two (az t)≤q:=by
   rw[←ZK];have z1:two (az t)≤two power:=gq hp;have z2:(1:Rat)*two power≤(S:Rat)*two power:=(cB _).mpr (by have:=dP.mpr (show 1≤S from hS);exact this);rw[jf] at z2;grind
  have:=ee.mp (show two (az t)<two (log2 q+1) by grind);omega
 have acZ:log2 q<t.bias+1:=ee.mp (by grind);have hmb:=h.mb;have aeP:=h.m1;have uQ:t.unit Q=L-t.m:=by rw[oX,hL];omega
 have ZN:wholeBy m (Q/two (L-t.m))=(rootUnits m (q/two (2*(L-t.m))):Int):=by
  refine DT m ?_ fun a=>?_
  ·rw[k8];exact pM (cz VA) (cz (two_pos _))
  ·obtain⟨e,he⟩:=aA (show 0≤L-t.m-w-1 by omega);have x1:Q/two (L-t.m)=((2*r+more:Nat):Rat)*two (-((e:Int)+2)):=by
    rw[←hQ,k8,bV,←aY];congr 2;omega
   have v1:q/two (2*(L-t.m))=(N:Rat)*two (-(2*((e:Int)+1))):=by
    rw[uH,k8,bV,←aY];congr 2;omega
   have a1:(a:Rat)/2=((2*(a*2^e):Nat):Rat)*two (-((e:Int)+2)):=by
    rw[eD,eD,←dJ,show (a:Rat)/2=(a:Rat)*two (-1) from by rw[←k8,jA]];have:two (-1)=2*two (e:Int)*two (-((e:Int)+2)):=by
     rw[←jA,←aY,←aY];congr 1;omega
    rw[this];show _=(2:Rat)*_*_;grind
   have a2:(a:Rat)/2*((a:Rat)/2)=((a*2^e*(a*2^e):Nat):Rat)*two (-(2*((e:Int)+1))):=by
    rw[eD,eD,←dJ,show (a:Rat)/2=(a:Rat)*two (-1) from by rw[←k8,jA]];have:two (-1)*two (-1)=two (e:Int)*two (e:Int)*two (-(2*((e:Int)+1))):=by
     rw[←aY,←aY,←aY];congr 1;omega
    have h3:(a:Rat)*two (-1)*((a:Rat)*two (-1))=(a:Rat)*a*(two (-1)*two (-1)):=by grind
    rw[h3,this];grind
   rw[x1,v1,a2,a1];rw[cB,cB,fo,fo,dP,dP,Hw,Hw];generalize a*2^e=A;rw[←key,←ZL];refine⟨?_,Iff.rfl⟩;omega
 unfold Fmt.put Fmt.round;rw[ag (by grind)];simp only[uQ,ZN];rw[show ((rootUnits m (q/two (2*(L-t.m))):Int)).natAbs=rootUnits m (q/two (2*(L-t.m))) from rfl];have VC:decide (Q<0)=false:=bS (by grind);rw[VC];rw[ag];intro z;obtain⟨neg,n,d,n0,d0,eQ,BE⟩:=oY Q;have hn:neg=false:=by rw[BE (by grind)];exact VC
 subst hn;have uU:0<n:=by
  refine xB.mpr ⟨n0,fun z=>?_⟩;rw[←z] at eQ;have:Q=0:=by rw[eQ,dF];show (0:Rat)/d*two 0=0;rw[bQ,bF,bF]
  grind
 obtain⟨c,j,_,e1,e2,c1,c2,_,_⟩:=jQ t h m false (power:=0) uU d0;rw[←eQ] at e1 e2;rw[uQ] at e1;rw[←e1,ZN] at e2;have hc:rootUnits m (q/two (2*(L-t.m)))=c:=by
  have:eH false (c:Int)=c:=rfl;rw[this] at e2;exact i5 e2
 rw[hc] at z;have c3:(c:Rat)≤two ((t.m+1:Nat):Int):=by rw[dJ];exact dP.mpr c1
 have c4:(c:Rat)*two (L-t.m)≤two ((t.m+1:Nat):Int)*two (L-t.m):=(cB _).mpr c3;rw[←aY] at c4;have c5:=Ap (show ((t.m+1:Nat):Int)+(L-t.m)<t.bias+1 by omega);grind
end BF
namespace BF
open Lw
theorem Qq (t:Fmt) (X:Nat):∃c j:Nat,c<2^(t.m+1)∧(0<j→2^t.m≤c)∧X=j*2^t.m+c:=by
 have hM:0<2^t.m:=cV _;have dx:=gD X (2^t.m);have rx:=fG X hM;have hp:2^(t.m+1)=2*2^t.m:=by rw[gW];omega
 by_cases q:X/2^t.m=0
 ·rw[q] at dx;exact⟨X,0,Kf,Kf,Kf⟩
 ·refine⟨2^t.m+X%2^t.m,X/2^t.m-1,Kf,Kf,?_⟩;obtain⟨k,hk⟩:∃k,X/2^t.m=k+1:=⟨X/2^t.m-1,(J7 (vz q)).symm⟩;rw[hk] at dx ⊢;rw[Nat.mul_add,eF] at dx;rw[lz];omega
theorem Il {t:Fmt} (h:Ok t) {q:Rat} {X:Nat} (r:Repr t q X):q<two (t.bias+1):=by
 obtain⟨c,j,h1,h2,e⟩:=Qq t X;have k:=sV t h (c:=c) (j:=j) rfl Kf h2;have e1:q=(c:Rat)*two (az t+j):=by
  rw[r.2,e,rH t Kf h2,eD,aY,dJ];grind
 rw[e1];refine Rat.not_le.mp fun z=>?_;have:=k.mp z;have r1:=r.1;rw[e,cJ,eR,bO] at r1;omega
theorem sX (t:Fmt) {x:Nat} (hx:x<2*t.sign) :
  (∃s X,x=pat t s X∧(X:Int)<aU t∧bE t<X∧ta t x=ki)∨(∃s,x=t.inf s∧ta t x=rG s) ∨
   (∃s X,x=pat t s X∧(X:Int)<bE t∧∃S p,ta t x=bN s S p∧az t≤p∧0≤S∧Repr t ((S:Rat)*two p) X∧(S=0↔X=0)):=by
 have ⟨ex,hX⟩:=jl t x hx;have hk:=cX t x hx;have ⟨s0,_⟩:=gi t x Kf;generalize t.neg x=s at *;generalize x%t.sign=X at *;subst ex;have ⟨h1,h2⟩:=iC (neg:=s) hX;rw[gP t s hX] at hk;unfold ta at hk s0 ⊢;dsimp only at hk s0 ⊢;rw[h1,h2] at hk s0 ⊢;by_cases q1:bE t<(X:Int)
 ·rw[ao q1] at *;exact .inl ⟨s,X,rfl,hX,q1,rfl⟩
 ·rw[ag q1] at hk s0 ⊢;by_cases q2:(X:Int)=bE t
  ·rw[ao q2] at hk s0 ⊢;refine .inr (.inl ⟨s,?_,rfl⟩);refine i5 ?_;show ((pat t s X:Nat):Int)=(t.inf s:Int);rw[kj,lS,q2]
  ·rw[ag q2] at hk s0 ⊢;have q3:(X:Int)<bE t:=by omega
   rw[ao q3] at hk;refine .inr (.inr ⟨s,X,rfl,q3,?_⟩);have fin:∀S p,(bN s S p).kind=Kind.num s (bK s ((gv t X:Rat)*two (az t)))→0≤S→Repr t ((S:Rat)*two p) X∧(S=0↔X=0):=fun S p e hS=>by
    unfold bN at e;rw[bH rfl rfl] at e;injection e with _ e2
    have e3:(S:Rat)*two p=(gv t X:Rat)*two (az t):=by
     unfold bK at e2;cases s
     ·simpa using e2
     ·simp only[aJ] at e2;grind
    refine⟨⟨q3,e3⟩,?_⟩;rw[←nP t];constructor
    ·intro z;rw[z] at e3;have:(gv t X:Rat)*two (az t)=0:=by rw[←e3];exact bF _
     rcases jg.mp this with w | w
     ·exact Hf.mp w
     ·exact absurd w (jk _)
    ·intro z;rw[z] at e3;have:(S:Rat)*two p=0:=by rw[e3];exact bF _
     rcases jg.mp this with w | w
     ·exact jx.mp w
     ·exact absurd w (jk _)
   by_cases q4:(X:Int)/2^t.m=0
   ·rw[ao q4] at hk s0 ⊢;exact⟨_,_,rfl,oE _,s0,fin _ _ hk s0⟩
   ·rw[ag q4] at hk s0 ⊢;have:0≤(X:Int)/2^t.m:=f7 Kf (bo (aX _));exact⟨_,_,rfl,Kf,s0,fin _ _ hk s0⟩
def lE (n:Nat):Nat:=rootNat n (Nat.log2 n/2+2) 0
def kM (t:Fmt) (u:Ex):Int:=2*t.m+6+u.power%2
def ig (t:Fmt) (u:Ex):Nat:=(u.size*2^(kM t u).toNat).toNat
def jS (n:Nat):Nat:=if lE n*lE n=n then 0 else 1
theorem wc (t:Fmt) (h:Ok t) (m:Mode) {x:Nat} (hx:x<2*t.sign):t.root m x =
  if bC (ta t x)=true then x else if ((ta t x).nan||(ta t x).neg)=true then t.nan else if (ta t x).inf=true then x
  else t.put m false (((2*lE (ig t (ta t x))+jS (ig t (ta t x)):Nat):Rat)*two (((ta t x).power-kM t (ta t x))/2-1)):=by
 unfold Fmt.root;rw[←cX t x hx];rcases sX t hx with ⟨s,X,_,_,_,e⟩ | ⟨s,e1,e⟩ | ⟨s,X,e1,hX,S,p,e,hp,hS,r,z⟩
 ·rw[e];rfl
 ·rw[e];cases s
  ·simp[rG,Ex.kind,bC,e1]
  ·simp[rG,Ex.kind,bC]
 ·rw[e];unfold bN;rw[bH rfl rfl];simp only[bC,fR,fJ,bj,lJ,aO,aM];by_cases q:S=0
  ·rw[ao q];have:bK s ((S:Rat)*two p)=0:=by rw[dF,q];exact bF _
   rw[ao this,e1,z.mp q];exact jR t s
  ·rw[ag q];have hSp:0<S:=by omega
   have vp:0<(S:Rat)*two p:=fC (eW.mpr hSp) (two_pos _);have:¬bK s ((S:Rat)*two p)=0:=by rw[dF];grind
   rw[ag this];cases s
   ·simp only[bK,aO,aM];rw[ag (by grind)];obtain⟨S',rfl⟩:=aA hS;rw[bu] at *;have hi:rootNat (ig t ⟨false,false,false,S',p⟩) (Nat.log2 (ig t ⟨false,false,false,S',p⟩)/2+2) 0=lE (ig t ⟨false,false,false,S',p⟩):=rfl;obtain⟨rt,er,r1,r2⟩:=nS (ig t ⟨false,false,false,S',p⟩);rw[hi] at er;have hN:((ig t ⟨false,false,false,S',p⟩:Nat):Int)=S'*2^(kM t ⟨false,false,false,S',p⟩).toNat:=by
     unfold ig;exact fz (fE Kf (bo (aX _)))
    have TH:kM t ⟨false,false,false,S',p⟩=2*t.m+6+p%2:=rfl;have core:=KW t h m (S:=S') (N:=ig t ⟨false,false,false,S',p⟩) (r:=rt) (more:=jS (ig t ⟨false,false,false,S',p⟩)) (power:=p)
     (shift:=kM t ⟨false,false,false,S',p⟩) (w:=(p-kM t ⟨false,false,false,S',p⟩)/2) Kf hp (Il h r) (by rw[TH];omega) (by rw[TH];omega) hN r1 r2 (by unfold jS;rw[er])
    rw[er,core]
   ·simp only[bK,aJ];rw[ao (by grind)]
end BF
namespace BF
open Lw
theorem okH:Ok HALF:=⟨J9,J9,J9⟩
theorem Wo:Ok BRAIN:=⟨J9,J9,J9⟩
theorem okS:Ok SINGLE:=⟨J9,J9,J9⟩
theorem cH:Ok D:=⟨J9,J9,J9⟩
theorem Qr {t:Fmt} {s r:Bool} {X Y:Nat} (hX:(X:Int)<aU t) (hY:(Y:Int)<aU t) (e:pat t s X=pat t r Y):s=r∧X=Y:=by
 have e1:t.neg (pat t s X)=t.neg (pat t r Y):=by rw[e]
 rw[v8 hX,v8 hY] at e1;have e2:pat t s X%t.sign=pat t r Y%t.sign:=by rw[e]
 rw[v9 hX,v9 hY] at e2;exact⟨e1,e2⟩
theorem Im (s:Bool) {q:Rat} (h:0≤q):size (bK s q)=q:=by
 unfold size bK;cases s
 ·simp only[aO,aM];rw[ag (by grind)]
 ·simp only[aJ];by_cases z:q=0
  ·subst z;rfl
  ·rw[ao (by grind),nB]
theorem uX (t:Fmt) (h:Ok t) (m:Mode) (s:Bool) {q:Rat} {j:Int} (hq:0<q) (hj:t.leastExp≤j) (BG:j≤t.bias) (hb:q≤two j) :
  ∃X q',Repr t q' X∧t.put m s (bK s q)=pat t s X∧q'≤two j∧(∀i:Int,two i≤q→(az t≤i)→two i≤q'):=by
 obtain⟨neg,n,d,n0,d0,eQ,BE⟩:=oY q;have hn:neg=false:=by rw[BE (by grind)];exact bS (by grind)
 subst hn;have uU:0<n:=by
  refine xB.mpr ⟨n0,fun z=>?_⟩;rw[←z] at eQ;have:q=0:=by rw[eQ,dF];show (0:Rat)/d*two 0=0;rw[bQ,bF,bF]
  grind
 have WO:q=(n:Rat)/d*two 0:=eQ;obtain⟨u,c,hu,hc,e1,e2,c0,c1,c2,_⟩:=v5 t m s (power:=0) uU d0;rw[←WO] at e1 e2;have hl:az t≤j:=by unfold az;omega
 have ⟨l1,l2⟩:=g6 hq;have lj:log2 q≤j:=by
  have:=ee.mp (show two (log2 q)<two (j+1) by rw[iS];have:=two_pos j;grind);omega
 rw[oX,xS] at e1;have uj:u≤j:=by omega
 have e3:bK s q/two u=bK s (q*two (-u)):=by rw[k8,mB]
 have TJ:∃n' d':Int,0<d'∧q*two (-u)=(n':Rat)/d'∧c=wq m s n' d':=by
  by_cases q1:0≤0-u
  ·rw[ao q1] at hc;refine⟨_,_,d0,?_,hc⟩;rw[WO,de,cC,bh,←cW q1,bQ,bQ,show (0-u:Int)=-u by omega];grind
  ·rw[ag q1] at hc;refine⟨_,_,pS d0 (aX _),?_,hc⟩;rw[WO,de,cC,bh,←cW (show 0≤-(0-u) by omega),bQ,bQ,Bn];have:(two (-(0-u)))⁻¹=two (-u):=pP (by rw[←aY,←de];congr 1;omega);rw[this];grind
 obtain⟨n',d',ZO,ex,ZP⟩:=TJ;have cle:c≤2^(j-u).toNat:=by
  rw[ZP];refine F4 ZO ?_;rw[←ex,←cW Kf];have:q*two (-u)≤two j*two (-u):=(cB _).mpr hb;rw[←aY] at this;exact this
 obtain⟨C,hC⟩:=aA c0;obtain⟨i,hi⟩:=aA (show 0≤u-az t by omega);have ui:u=az t+i:=by omega
 have d1:C≤2^(t.m+1):=by
  have z:=c1;rw[hC,←bO] at z;exact iV.mp z
 have d2:0<i→2^t.m≤C:=fun z=>by
  have z:=c2 Kf;rw[hC,←bO] at z;exact iV.mp z
 have ZQ:(C:Rat)*two u≤two j:=by
  have z1:((c:Int):Rat)≤two (j-u):=by rw[cW Kf];exact oU.mpr cle
  rw[hC,bu] at z1;have z2:=(cB u).mpr z1;rw[←aY,show j-u+u=j by omega] at z2;exact z2
 have oS:(C:Rat)*two (az t+i)<two (t.bias+1):=by
  rw[←ui];have:=Ap (show j<t.bias+1 by omega);grind
 have R:=Bx t h d1 d2 oS;refine⟨_,_,R,?_,by rw[←ui];exact ZQ,?_⟩
 ·have rr:=kL h R m s;rw[←rr];unfold Fmt.put;have nz:¬bK s q=0:=by rw[dF];grind
  rw[ag nz];have TK:(t.round m (bK s q):Int)=((pat t s (i*2^t.m+C):Nat):Int):=by
   unfold Fmt.round;have eu:t.unit (bK s q)=u:=by rw[oX,xS];omega
   simp only[eu,e2,Bq hq,hC];have e5:(eH s (C:Int)).natAbs=C:=by
    have:=Br s (z:=(C:Int)) Kf;omega
   rw[e5,made_int t h m s C i u ui d1 d2,kj];have k:=R.1;have FL:((i*2^t.m+C:Nat):Int)=(i:Int)*2^t.m+C:=by rw[cJ,eR,bO]
   rw[FL] at k ⊢;rw[ag Kf]
  have:=i5 TK;rw[this];show _=t.put m s _;rw[rr]
 ·intro a ha zB;rw[←ui];by_cases au:u≤a
  ·have z1:(2:Int)^(a-u).toNat≤c:=by
    rw[ZP];refine KN ZO ?_;rw[←ex,←cW Kf];have:two a*two (-u)≤q*two (-u):=(cB _).mpr ha;rw[←aY] at this;exact this
   have z2:two (a-u)≤((c:Int):Rat):=by rw[cW Kf];exact oU.mpr z1
   rw[hC,bu] at z2;have z3:=(cB u).mpr z2;rw[←aY,show a-u+u=a by omega] at z3;exact z3
  ·have z1:2^t.m≤C:=d2 Kf;have z2:(1:Rat)≤(C:Rat):=dP.mpr (bZ pN z1);have z3:=(cB u).mpr z2;rw[jf] at z3;have:=gq (show a≤u by omega);grind
theorem Io (t:Fmt) (h:Ok t) (m:Mode) (z:Bool) {q:Rat} {j:Int} (hj:t.leastExp≤j) (BG:j≤t.bias) (h1:q≤two j) (h2:-(two j)≤q) :
  ∃s q',t.kind (t.put m z q)=.num s q'∧q'≤two j∧-(two j)≤q'∧(0<q→s=false)∧(q=0→s=z∧q'=0)∧(0≤q→0≤q')∧(∀i:Int,two i≤q→az t≤i→two i≤q'):=by
 rcases Rat.le_total (a:=0) (b:=q) with g | g
 ·by_cases e:q=0
  ·refine⟨z,0,?_,cz (two_pos _),by have:=two_pos j;grind,fun k=>by grind,fun _=>⟨rfl,rfl⟩,fun _=>Af,fun i hi _=>by have:=two_pos i;grind⟩;have:t.put m z q=pat t z 0:=by unfold Fmt.put;rw[ao e];exact jR t z
   rw[this,mi t z (by have:=gh t h;omega),mC];congr 1;rw[dF];exact bF _
  ·obtain⟨X,q',r,e1,b1,b2⟩:=uX t h m false (q:=q) (j:=j) (by grind) hj BG h1;have nn:=qe r;refine⟨false,q',?_,b1,by have:=two_pos j;grind,fun _=>rfl,fun k=>absurd k e,fun _=>nn,fun i hi hl=>b2 i hi hl⟩;rw[kX t m z false e];have NP:t.put m false q=pat t false X:=e1;rw[NP];exact mF r false
 ·by_cases e:q=0
  ·refine⟨z,0,?_,cz (two_pos _),by have:=two_pos j;grind,fun k=>by grind,fun _=>⟨rfl,rfl⟩,fun _=>Af,fun i hi _=>by have:=two_pos i;grind⟩;have:t.put m z q=pat t z 0:=by unfold Fmt.put;rw[ao e];exact jR t z
   rw[this,mi t z (by have:=gh t h;omega),mC];congr 1;rw[dF];exact bF _
  ·obtain⟨X,q',r,e1,b1,b2⟩:=uX t h m true (q:=-q) (j:=j) (by grind) hj BG (by grind);have nn:=qe r;refine⟨true,-q',?_,by have:=two_pos j;grind,by grind,fun k=>by grind,fun k=>absurd k e,fun k=>by grind,fun i hi _=>by have:=two_pos i;grind⟩;rw[kX t m z true e];have NP:t.put m true q=pat t true X:=by
    have:bK true (-q)=q:=by unfold bK;simp only[aJ,nB]
    rw[this] at e1;exact e1
   rw[NP];exact mF r true
end BF
namespace BF
open Lw
theorem wd (y last:Nat):∀init:List Nat,horner y (init++[last])=init.reverse.foldl (fun s c=>D.fma .near s y c) last
 | []=>rfl
 | c::r=>by
  have ih:=wd y last r;rw[List.reverse_cons,xC];show horner y (c::(r++[last]))=_;have iW:∃a b,r++[last]=a::b:=by
   cases r with
   | nil=>exact⟨last,[],rfl⟩
   | cons a b=>exact⟨a,b++[last],rfl⟩
  obtain⟨a,b,e⟩:=iW;rw[e] at ih ⊢;rw[←ih];rfl
theorem nT (y:Nat):∀(c d:Nat) (r:List Nat),Out D (horner y (c::d::r)):=fun c d r=>by
 show Out D (D.fma .near (horner y (d::r)) y c);exact fL D cH _ _ _
structure Num (t:Fmt) (x:Nat) (s:Bool) (q:Rat):Prop where
 lt:x<2*t.sign
 kd:t.kind x=.num s q
theorem Num.neg {t:Fmt} {x:Nat} {s:Bool} {q:Rat} (n:Num t x s q):t.neg x=s:=by
 have ⟨ex,hX⟩:=jl t x n.lt;have hk:=gP t (t.neg x) hX;rw[←ex,n.kd] at hk;split at hk
 ·injection hk with e _;exact e.symm
 ·split at hk<;>cases hk
theorem Num.nan {t:Fmt} {x:Nat} {s:Bool} {q:Rat} (n:Num t x s q):t.isNan x=false:=by
 unfold Fmt.isNan;rw[n.kd];rfl
theorem Num.repr {t:Fmt} {x:Nat} {s:Bool} {q:Rat} (n:Num t x s q):∃X,x=pat t s X∧Repr t (size q) X∧q=bK s (size q):=by
 have ⟨ex,hX⟩:=jl t x n.lt;have hs:=n.neg;have hk:=gP t (t.neg x) hX;rw[←ex,n.kd] at hk;split at hk
 ·next k =>
  injection hk with e1 e2
  have e3:size q=(gv t (x%t.sign):Rat)*two (az t):=by
   rw[e2];exact Im _ (pM DH (cz (two_pos _)))
  refine⟨x%t.sign,by rw[e1];exact ex,⟨k,e3⟩,by rw[e3,e1];exact e2⟩
 ·split at hk<;>cases hk
theorem um {t:Fmt} (h:Ok t) {x y:Nat} {s r:Bool} {p q:Rat} (nx:Num t x s p) (ny:Num t y r q):place t x<place t y↔p<q∨(p=q∧s=true∧r=false):=by
 have e:=mG t h nx.lt ny.lt;have e2:t.before x y=true↔place t x<place t y:=by rw[e];exact bj
 rw[←e2];unfold Fmt.before Fmt.equal Fmt.below;rw[nx.nan,ny.nan,nx.kd,ny.kd,nx.neg,ny.neg];simp only[belowKinds,aO,aM,fR,fJ,bR,bj,cI,xD,J4];constructor
 ·rintro(z | ⟨⟨z1,z2⟩,z3,z4⟩)
  ·exact .inl z
  ·exact .inr ⟨by grind,z3,z4⟩
 ·rintro(z | ⟨z1,z2,z3⟩)
  ·exact .inl z
  ·exact .inr ⟨⟨by grind,by grind⟩,z2,z3⟩
theorem lT {t:Fmt} {X Y:Nat} {p q:Rat} (rx:Repr t p X) (ry:Repr t q Y):p<q↔X<Y:=by
 rw[rx.2,ry.2,cq,Ai,uR]
theorem rK (z:Int) (m:Mode) (hz:z.natAbs≤2^53):Num D (D.ofInt m z) (decide (z<0)) (z:Rat):=by
 obtain⟨X,r⟩:=mj D cH (c:=z.natAbs) hz;have e:(z:Rat)=bK (decide (z<0)) ((z.natAbs:Nat):Rat):=by
  rw[←bu,kl];refine rz.mpr ?_;unfold eH;by_cases k:z<0<;>simp[k]<;>omega
 have e1:D.ofInt m z=pat D (decide (z<0)) X:=by
  unfold Fmt.ofInt;by_cases k:z=0
  ·subst k;have:=kL cH r m false;have e0:bK false ((((0:Int).natAbs:Nat)):Rat)=((0:Int):Rat):=rfl;rw[e0] at this;exact this
  ·rw[kX D m false (decide (z<0)) (fun q=>k (jx.mp q)),e];exact kL cH r m _
 refine⟨by rw[e1];exact lR D _ (lI r.1 (dB D)),?_⟩;rw[e1,e];exact mF r _
theorem Aq {t:Fmt} {x:Nat} {s:Bool} {q:Rat} (n:Num t x s q):∃S p,ta t x=bN s S p∧az t≤p∧0≤S∧q=bK s ((S:Rat)*two p)∧S<2^(t.m+1):=by
 have hk:=n.kd;rw[←cX t x n.lt] at hk;have sz:=(gi t x Kf).2;rcases sX t n.lt with ⟨s',X,_,_,_,e⟩ | ⟨s',e1,e⟩ | ⟨s',X,e1,hX,S,p,e,hp,hS,r,z⟩
 ·rw[e] at hk;cases hk
 ·rw[e] at hk;cases hk
 ·rw[e] at hk sz;have PZ:Kind.num s' (bK s' ((S:Rat)*two p))=.num s q:=by
   rw[←hk];unfold bN;rw[bH rfl rfl]
  injection PZ with e2 e3
  subst e2;exact⟨S,p,e,hp,hS,e3.symm,sz⟩
theorem F9 (t:Fmt) (h:Ok t) (m:Mode) (z:Bool) {q:Rat} {j:Int} (hj:t.leastExp≤j) (BG:j≤t.bias) (h1:size q≤two j) (h2:two (az t)≤size q):eA t (t.put m z q)=false:=by
 have hq:0<size q:=by have:=two_pos (az t);grind
 obtain⟨s,e⟩:∃s,q=bK s (size q):=by
  unfold size;by_cases k:q<0
  ·exact⟨true,by rw[ao k];unfold bK;simp only[aJ,nB]⟩
  ·exact⟨false,by rw[ag k];rfl⟩
 have iW:q≠0:=by
  intro k;rw[k] at hq;have:size 0=0:=by rfl
  rw[this] at hq;exact Rat.lt_irrefl hq
 obtain⟨X,q',r,e1,b1,b2⟩:=uX t h m s hq hj BG h1;have FR:=b2 _ h2 (oE _);rw[kX t m z s iW]
 conv=>lhs;rw[e]
 rw[e1];unfold eA;have hX:=lI r.1 (dB t);rw[(iC (neg:=s) hX).1];refine bS fun k=>?_;have k':X=0:=by omega
 subst k';have:=r.2;rw[mC] at this;have h0:q'=0:=by rw[this];exact bF _
 have:=two_pos (az t);grind
theorem KZ (t:Fmt) (m:Mode) (z:Bool):eA t (t.put m z 0)=true:=by
 have:t.put m z 0=pat t z 0:=by unfold Fmt.put;rw[ao rfl];exact jR t z
 rw[this];unfold eA;rw[(iC (neg:=z) (show ((0:Nat):Int)<aU t from aX _)).1];rfl
def LB:Nat:=0xC092C00000000000
def GB:Nat:=0x4091300000000000
theorem Ga:LB=D.ofInt .near (-1200):=by decide +kernel
theorem Gb:GB=D.ofInt .near 1100:=by decide +kernel
theorem Mt:Num D LB true (-1200):=by rw[Ga];exact rK (-1200) .near J9
theorem Mu:Num D GB false 1100:=by rw[Gb];exact rK 1100 .near J9
def ij (x:Nat):Nat:=if place D x<place D LB then LB else if place D GB<place D x then GB else x
def mI (x:Nat):Int:=eH (ta D x).neg (dn .near (ta D x))
def xT (x:Nat):Nat :=
 let y:=D.sub .near (ij x) (D.ofInt .near (mI (ij x)))
 if eA D y=true then 0 else y
theorem lF {q:Rat} {a b:Int} (h1:(a:Rat)≤q) (h2:q≤b):a≤nearestEven q∧nearestEven q≤b∧(nearestEven q:Rat)≤q+1/2∧q-1/2≤(nearestEven q:Rat):=by
 unfold nearestEven;dsimp only;have f1:=Rat.floor_le (q+1/2);have f2:=Rat.lt_floor_add_one (q+1/2);rw[Rat.intCast_add] at f2;have f2':q+1/2<((q+1/2).floor:Rat)+1:=f2;generalize (q+1/2).floor=n at *;split
 ·next k =>
  have e:((n-1:Int):Rat)=(n:Rat)-1:=by rw[nr];rfl
  have k1:=k.1;refine⟨?_,?_,by rw[e];grind,by rw[e];grind⟩
  ·have:(a:Rat)<((n-1+1:Int):Rat):=by rw[show n-1+1=n by omega];grind
   have:=mz.mp this;omega
  ·have:((n-1:Int):Rat)<((b+1:Int):Rat):=by
    rw[e,dH];show _<(b:Rat)+1;grind
   have:=mz.mp this;omega
 ·next k =>
  refine⟨?_,?_,by grind,by grind⟩
  ·have:(a:Rat)<((n+1:Int):Rat):=by rw[dH];show _<(n:Rat)+1;grind
   have:=mz.mp this;omega
  ·have:(n:Rat)<((b+1:Int):Rat):=by rw[dH];show _<(b:Rat)+1;grind
   have:=mz.mp this;omega
theorem xU {x:Nat} {s:Bool} {q:Rat} (n:Num D x s q):∃s',Num D (ij x) s' (if q < -1200 then -1200 else if 1100<q then 1100 else q):=by
 unfold ij;have a:=um cH n Mt;have b:=um cH Mu n;have a':place D x<place D LB↔q < -1200:=by
  rw[a];constructor
  ·rintro(z | ⟨_,_,z⟩)
   ·exact z
   ·cases z
  ·exact .inl
 have b':place D GB<place D x↔1100<q:=by
  rw[b];constructor
  ·rintro(z | ⟨_,z,_⟩)
   ·exact z
   ·cases z
  ·exact .inl
 by_cases k1:q < -1200
 ·rw[ao (a'.mpr k1),ao k1];exact⟨true,Mt⟩
 ·rw[ag fun z=>k1 (a'.mp z),ag k1];by_cases k2:1100<q
  ·rw[ao (b'.mpr k2),ao k2];exact⟨false,Mu⟩
  ·rw[ag fun z=>k2 (b'.mp z),ag k2];exact⟨s,n⟩
theorem E9 {x:Nat} {s:Bool} {q:Rat} (n:Num D x s q):mI x=nearestEven q:=by
 unfold mI;obtain⟨S,p,e,hp,hS,hq,_⟩:=Aq n;rw[e];have:=(mH .near (u:=bN s S p) hS).1;rw[hq];exact this.symm
theorem NR {x:Nat} {s:Bool} {q:Rat} (n:Num D x s q) (k:Int) (iW:q-(k:Rat)≠0):two (az D)≤size (q-k):=by
 obtain⟨S,p,e,hp,hS,hq,_⟩:=Aq n;have hl:az D≤0:=by decide
 obtain⟨z,hz⟩:∃z:Int,q-(k:Rat)=(z:Rat)*two (az D):=by
  obtain⟨a,ha⟩:=aA (show 0≤p-az D by omega);obtain⟨b,hb⟩:=aA (show 0≤0-az D by omega);refine⟨eH s S*2^a-k*2^b,?_⟩;have e1:two p=two (a:Int)*two (az D):=by rw[←aY];congr 1;omega
  have e2:(1:Rat)=two (b:Int)*two (az D):=by rw[←aY,←de];congr 1;omega
  have e3:(k:Rat)=(k:Rat)*(two (b:Int)*two (az D)):=by rw[←e2,cC]
  rw[hq,e1,e3,nr,bh,bh,←gc,←gc,←kl];rw[show bK s ((S:Rat)*(two (a:Int)*two (az D)))=bK s (S:Rat)*(two (a:Int)*two (az D)) by rw[mB]];grind
 rw[hz];have z0:z≠0:=by
  rintro rfl;exact iW (by rw[hz];exact bF _)
 have tp:=two_pos (az D);unfold size;by_cases zn:z<0
 ·have c:(z:Rat)≤-1:=by
   have:z≤-1:=by omega
   have:=oU.mpr this;exact this
  have:=jF c (cz tp);rw[ao (by grind)];grind
 ·have c:(1:Rat)≤(z:Rat):=by
   have:1≤z:=by omega
   have:=oU.mpr this;exact this
  have:=jF c (cz tp);rw[ag (by grind)];grind
theorem Qt (m:Mode) {x:Nat} {s:Bool} {q:Rat} (n:Num D x s q):exp2 m x=D.scale m (horner (xT x) EXP2) (mI (ij x)):=by
 unfold exp2;rw[n.kd];dsimp only;obtain⟨s',n'⟩:=xU n;generalize hp:(if q < -1200 then (-1200:Rat) else if 1100<q then 1100 else q)=p at *;have b1:((-1200:Int):Rat)≤p:=by rw[←hp];show (-1200:Rat)≤_;split<;>(try split)<;>grind
 have b2:p≤((1100:Int):Rat):=by rw[←hp];show _≤(1100:Rat);split<;>(try split)<;>grind
 have nb:=lF b1 b2;have hk:mI (ij x)=nearestEven p:=E9 n';rw[hk];congr 2;unfold xT;dsimp only;rw[hk];generalize nearestEven p=k at *;have nk:=rK k .near Kf;have ZR:D.sub .near (ij x) (D.ofInt .near k)=D.put .near (zeroSign .near p (-(k:Rat)) s' (!decide (k<0))) (p-(k:Rat)):=by
  unfold Fmt.sub;rw[n'.kd,nk.kd,Rat.sub_eq_add_neg];rfl
 rw[ZR];generalize zeroSign .near p (-(k:Rat)) s' (!decide (k<0))=zz;by_cases e:p-(k:Rat)=0
 ·rw[e,KZ];simp only[aJ];decide +kernel
 ·rw[F9 D cH _ _ (j:=0) J9 J9]
  ·simp only[aO,aM];exact kX D _ _ _ e
  ·rw[de];unfold size;split<;>grind
  ·exact NR n' k e
end BF
namespace BF
open Lw
def hJ:Nat:=0x3FF0000000000000
theorem nU:hJ=D.ofInt .near 1:=by decide +kernel
theorem Ip:Num D hJ false 1:=by rw[nU];exact rK 1 .near J9
theorem Iq {S p:Int} (h:0<S):log2 ((S:Rat)*two p)=bl S-1+p:=by
 have ⟨a,b⟩:=oW h;refine Ie ?_ ?_
 ·rw[aY];exact(cB _).mpr a
 ·rw[show bl S-1+p+1=bl S+p by omega,aY];exact(cq _).mpr b
def AF:Nat:=0x3FF6A09E667F3BCD
def o8 (x:Nat):Nat:=D.ofKind .near (bN false (ta D x).size (-(bl (ta D x).size-1))).kind
def mJ (x:Nat):Int:=(ta D x).power+(bl (ta D x).size-1)
def oq (x:Nat):Nat:=if AF≤o8 x then D.scale .near (o8 x) (-1) else o8 x
def jK (x:Nat):Int:=if AF≤o8 x then mJ x+1 else mJ x
def BH (x:Nat):Nat:=D.div .near (D.sub .near (oq x) hJ) (D.add .near (oq x) hJ)
theorem K0 {x:Nat} {q:Rat} (n:Num D x false q) (hq:0<q):∃F fv,o8 x=pat D false F∧Repr D fv F∧1≤fv∧fv<2∧q=fv*two (mJ x)∧log2 q=mJ x∧-1074≤mJ x∧mJ x<1024:=by
 obtain⟨S,p,e,hp,hS,hqe,ZS⟩:=Aq n;have Mv:q=(S:Rat)*two p:=hqe;have ZT:0<S:=by
  refine xB.mpr ⟨hS,fun z=>?_⟩;rw[←z] at Mv;have:q=0:=by rw[Mv];exact bF _
  grind
 obtain⟨S',rfl⟩:=aA hS;have ⟨a,b⟩:=oW ZT;have hb:bl (S':Int)-1<53:=by
  refine ee.mp ?_;have:((S':Int):Rat)<two 53:=by
   rw[show two 53=((2^53:Int):Rat) from gc 53];exact mz.mpr ZS
  grind
 have ZU:0≤bl (S':Int)-1:=by
  have:two 0≤((S':Int):Rat):=by rw[de];exact oU.mpr (by omega:(1:Int)≤S')
  have:=ee.mp (show two 0<two (bl (S':Int)) by grind);omega
 have fv1:(1:Rat)≤(S':Rat)*two (-(bl (S':Int)-1)):=by
  have:=(cB (-(bl (S':Int)-1))).mpr a;rw[←aY,show bl (S':Int)-1+-(bl (S':Int)-1)=0 by omega,de,bu] at this;exact this
 have fv2:(S':Rat)*two (-(bl (S':Int)-1))<2:=by
  have:=(cq (-(bl (S':Int)-1))).mpr b;rw[←aY,show bl (S':Int)+-(bl (S':Int)-1)=1 by omega,jA,bu] at this;exact this
 have hSn:S'<2^(D.m+1):=by
  have z:=ZS;rw[←bO] at z;exact j1.mp z
 obtain⟨F,r⟩:=By D cH (c:=S') (v:=-(bl (S':Int)-1)) hSn (by have:az D=-1074:=J9;omega) (by
   have:two (D.bias+1)=two 1024:=rfl;rw[this];have:=gq (show (1:Int)≤1024 by decide);rw[jA] at this;grind)
 have hK:mJ x=p+(bl (S':Int)-1):=by unfold mJ;rw[e];rfl
 have hl:log2 q=mJ x:=by rw[Mv,Iq ZT,hK];omega
 refine⟨F,_,?_,r,fv1,fv2,?_,hl,?_,?_⟩
 ·unfold o8;rw[e];unfold bN;rw[bH rfl rfl];show D.put .near false (bK false ((((S':Nat):Int):Rat)*two (-(bl (S':Int)-1))))=_;rw[bu];exact kL cH r .near false
 ·rw[hK,bV,←aY,Mv,bu];congr 2;omega
 ·have:az D=-1074:=by decide
  omega
 ·obtain⟨X,_,rr,_⟩:=n.repr;have hs:size q=q:=by unfold size;rw[ag (by grind)]
  rw[hs] at rr;have h1:=Il cH rr;have ⟨h2,_⟩:=g6 hq;rw[←hl];have:two (D.bias+1)=two 1024:=rfl;rw[this] at h1;exact ee.mp (by grind)
theorem Gd {x:Nat} {q:Rat} (n:Num D x false q) (hq:0<q):oq x=D.put .near false (q*two (-jK x))∧jK x=(if q*two (-(log2 q+1))<ROOTHALF then log2 q+1-1 else log2 q+1)∧two (-1)≤q*two (-jK x)∧q*two (-jK x)≤2∧(-1074≤jK x∧jK x≤1024):=by
 obtain⟨F,fv,e1,r,f1,f2,e2,e3,k1,k2⟩:=K0 n hq;have rA:Repr D (ROOTHALF*2) AF:=⟨J9,by decide +kernel⟩;have cmp:=lT r rA;have e4:q*two (-(log2 q+1))=fv*two (-1):=by
  rw[e3];conv=>lhs;arg 1;rw[e2]
  rw[bV,←aY];congr 2;omega
 have h21:two (-1)*2=1:=by rw[←jA];exact oV 1
 have ZV:=two_pos (-1);have cond:q*two (-(log2 q+1))<ROOTHALF↔F<AF:=by
  rw[e4,←cmp,show two (-1)=1/2 from rfl];generalize ROOTHALF=R;constructor<;>intro z<;>grind
 have hF:AF≤o8 x↔¬F<AF:=by rw[e1];unfold pat;simp
 unfold oq jK;by_cases c:F<AF
 ·rw[ag fun z=>hF.mp z c,ag fun z=>hF.mp z c,ao (cond.mpr c)];have e5:q*two (-mJ x)=fv:=by
   conv=>lhs;arg 1;rw[e2]
   rw[bV,←aY,show mJ x+-mJ x=0 by omega,de,cC]
  rw[e5];refine⟨by rw[e1];exact(kL cH r .near false).symm,Kf,by rw[show two (-1)=1/2 from rfl];grind,cz f2,Kf⟩
 ·rw[ao (hF.mpr c),ao (hF.mpr c),ag fun z=>c (cond.mp z)];have e5:q*two (-(mJ x+1))=fv*two (-1):=by rw[←e3];exact e4
  rw[e5];refine⟨?_,Kf,by rw[show two (-1)=1/2 from rfl];grind,by rw[show two (-1)=1/2 from rfl];grind,Kf⟩;unfold Fmt.scale;rw[e1,mF r false];rfl
theorem Ir (m:Mode) {x:Nat} {q:Rat} (n:Num D x false q) (hq:0<q):logb m x=D.fma m (BH x) (horner (D.mul .near (BH x) (BH x)) LOG2) (D.ofInt .near (jK x)):=by
 have ⟨a,b,_⟩:=Gd n hq;unfold logb;rw[n.kd];dsimp only;rw[if_neg (by grind),if_neg J9,←b,←a,←nU];rfl
theorem mK {t:Fmt} (h:Ok t) (m:Mode) (z:Bool) {q:Rat} {j:Int} (hj:t.leastExp≤j) (BG:j≤t.bias) (h1:q≤two j) (h2:-(two j)≤q) :
  ∃s q',Num t (t.put m z q) s q'∧q'≤two j∧-(two j)≤q'∧(∀i:Int,two i≤q→az t≤i→two i≤q'):=by
 obtain⟨s,q',k,a,b,_,_,_,d⟩:=Io t h m z hj BG h1 h2;exact⟨s,q',⟨ez h (lg t h m z q),k⟩,a,b,d⟩
theorem rL {a b B:Rat} (hB:0≤B) (h1:a≤B) (h2:-B≤a) (h3:b≤1) (h4:-1≤b):a*b≤B∧-B≤a*b:=by
 rcases Rat.le_total (a:=0) (b:=b) with g | g
 ·have x1:=jF h1 g;have x2:=jF h2 g;have x3:=gu h3 hB;constructor<;>grind
 ·have g':0≤-b:=by grind
  have x1:=jF h1 g';have x2:=jF h2 g';have x3:=gu (show -b≤1 by grind) hB;constructor<;>grind
theorem Iu {a b c:Nat} {s1 s2 s3:Bool} {p q r:Rat} {j:Int} (na:Num D a s1 p) (nb:Num D b s2 q) (nc:Num D c s3 r) (m:Mode) (hj:-1022≤j) (BG:j≤1023) (h1:p*q+r≤two j) (h2:-(two j)≤p*q+r) :
  ∃s v,Num D (D.fma m a b c) s v∧v≤two j∧-(two j)≤v:=by
 unfold Fmt.fma;rw[na.kd,nb.kd,nc.kd];simp only[timesKinds,Fmt.addKinds];have e1:D.leastExp=-1022:=by decide
 have e2:D.bias=1023:=by decide
 obtain⟨s,v,n,a,b,_⟩:=mK cH m (zeroSign m (p*q) r (s1 != s2) s3) (by rw[e1];exact hj) (by rw[e2];exact BG) h1 h2;exact⟨s,v,n,a,b⟩
def Qv (c:Nat):Prop:=∃s r,Num D c s r∧r≤4∧-4≤r
theorem yR {y:Nat} {s:Bool} {q:Rat} (ny:Num D y s q) (h1:q≤1) (h2:-1≤q):∀(l:List Nat),l≠[]→(∀c∈l,Qv c)→l.length≤100→∃s v,Num D (horner y l) s v∧v≤two (l.length+2)∧-(two (l.length+2))≤v
 | [],h,_,_=>absurd rfl h
 | [c],_,hc,_=>by
  obtain⟨s,r,n,a,b⟩:=hc c (by simp);have:(4:Rat)≤two (([c].length:Int)+2):=by
   have:=gq (show (2:Int)≤([c].length:Int)+2 by simp);rw[show two 2=4 by rfl] at this;exact this
  exact⟨s,r,n,by grind,by grind⟩
 | c::d::r,_,hc,hl=>by
  obtain⟨s1,v,n,a,b⟩:=yR ny h1 h2 (d::r) (by simp) (fun c' h'=>hc c' (dv _ h')) (by simp at hl ⊢;omega);obtain⟨s2,w,n2,a2,b2⟩:=hc c (by simp);have hB:=two_pos (((d::r).length:Int)+2);have ⟨x1,x2⟩:=rL (cz hB) a b h1 h2;have e:two (((c::d::r).length:Int)+2)=2*two (((d::r).length:Int)+2):=by rw[←iS];congr 1
  have f:(4:Rat)≤two (((d::r).length:Int)+2):=by
   have:=gq (show (2:Int)≤((d::r).length:Int)+2 by simp;omega);rw[show two 2=4 by rfl] at this;exact this
  show ∃s v,Num D (D.fma .near (horner y (d::r)) y c) s v∧_;exact Iu n ny n2 .near (by simp at hl ⊢;omega) (by simp at hl ⊢;omega) (by rw[e];grind) (by rw[e];grind)
theorem Qw {c:Nat} {s:Bool} {X:Nat} (e:c=pat D s X) (h:(X:Int)<bE D) (h1:(gv D X:Rat)*two (az D)≤4):Qv c:=by
 have nn:(0:Rat)≤(gv D X:Rat)*two (az D):=pM DH (cz (two_pos _));refine⟨s,bK s ((gv D X:Rat)*two (az D)),⟨by rw[e];exact lR D s (lI h (dB D)),by rw[e];exact mi D s h⟩,?_,?_⟩
 ·unfold bK;cases s<;>simp<;>grind
 ·unfold bK;cases s<;>simp<;>grind
theorem NS:∀c∈LOG2,Qv c:=by
 intro c hc;have:∀c∈LOG2,((c:Nat):Int)<bE D∧(gv D c:Rat)*two (az D)≤4:=by decide +kernel
 have ⟨a,b⟩:=this c hc;exact Qw (s:=false) (X:=c) (by unfold pat;simp) a b
theorem Qx {x:Nat} {q:Rat} (n:Num D x false q) (hq:0<q):∃s v,Num D (logb .near x) s v:=by
 rw[Ir .near n hq];have ⟨a,_,b1,b2,b3⟩:=Gd n hq;have h1:two (-1)=1/2:=by rfl
 have t1:two 1=2:=jA;have t2:two 2=4:=by rfl
 have t0:=de;have le:D.leastExp=-1022:=by decide
 have bi:D.bias=1023:=by decide
 have ll:az D=-1074:=by decide
 obtain⟨sf,f,nf,f1,f2,f3⟩:=mK cH .near false (q:=q*two (-jK x)) (j:=1) (by rw[le];decide) (by rw[bi];decide) (by rw[t1];exact b2) (by rw[t1];rw[h1] at b1;grind);rw[←a] at nf;have f4:=f3 (-1) b1 (by rw[ll];decide);rw[h1] at f4;rw[t1] at f1;clear f3 f2 b1 b2;obtain⟨s1,d,nd,d1,d2⟩:∃s v,Num D (D.sub .near (oq x) hJ) s v∧v≤1∧-1≤v:=by
  unfold Fmt.sub;rw[nf.kd,Ip.kd];simp only[turned,Fmt.addKinds];obtain⟨s,v,n,a,b,_⟩:=mK cH .near (zeroSign .near f (-1) sf (!false)) (q:=f+-1) (j:=0) (by rw[le];decide) (by rw[bi];decide) (by rw[t0];grind) (by rw[t0];grind);exact⟨s,v,n,by grind,by grind⟩
 obtain⟨s2,g,ng,g1⟩:∃s v,Num D (D.add .near (oq x) hJ) s v∧1≤v:=by
  unfold Fmt.add;rw[nf.kd,Ip.kd];simp only[Fmt.addKinds];obtain⟨s,v,n,a,b,c⟩:=mK cH .near (zeroSign .near f 1 sf false) (q:=f+1) (j:=2) (by rw[le];decide) (by rw[bi];decide) (by rw[t2];grind) (by rw[t2];grind);have:=c 0 (by rw[t0];grind) (by rw[ll];decide);exact⟨s,v,n,by grind⟩
 obtain⟨s3,w,nw,w1,w2⟩:∃s v,Num D (BH x) s v∧v≤1∧-1≤v:=by
  unfold BH Fmt.div;rw[nd.kd,ng.kd];dsimp only;rw[if_neg (by grind)];have gp:0<g:=by grind
  have z1:d/g≤1:=by
   refine dY.mp fun z=>?_;rw[Hg gp] at z;grind
  have z2:-1≤d/g:=by
   refine dY.mp fun z=>?_;rw[iM gp] at z;grind
  obtain⟨s,v,n,a,b,_⟩:=mK cH .near (s1 != s2) (q:=d/g) (j:=0) (by rw[le];decide) (by rw[bi];decide) (by rw[t0];exact z1) (by rw[t0];exact z2);exact⟨s,v,n,by grind,by grind⟩
 obtain⟨s4,y,ny,y1,y2⟩:∃s v,Num D (D.mul .near (BH x) (BH x)) s v∧v≤1∧-1≤v:=by
  unfold Fmt.mul;rw[nw.kd];simp only[timesKinds,Fmt.ofKind];have ⟨z1,z2⟩:=rL (B:=1) J9 w1 w2 w1 w2;obtain⟨s,v,n,a,b,_⟩:=mK cH .near (s3 != s3) (q:=w*w) (j:=0) (by rw[le];decide) (by rw[bi];decide) (by rw[t0];exact z1) (by rw[t0];exact z2);exact⟨s,v,n,by grind,by grind⟩
 obtain⟨s5,hh,nh,uN,tS⟩:=yR ny y1 y2 LOG2 J9 NS J9;have nk:=rK (jK x) .near Kf;have hB:=two_pos (((LOG2.length:Nat):Int)+2);have ⟨z1,z2⟩:=rL (cz hB) uN tS w1 w2;have hL:(((LOG2.length:Nat):Int)+2)=14:=by decide
 rw[hL] at z1 z2;have k1:((jK x:Int):Rat)≤two 14:=by
  have:two 14=((16384:Int):Rat):=by rfl
  rw[this];exact oU.mpr Kf
 have k2:-(two 14)≤((jK x:Int):Rat):=by
  have:-(two 14)=((-16384:Int):Rat):=by rfl
  rw[this];exact oU.mpr Kf
 have ZW:two 15=2*two 14:=iS 14;obtain⟨s,v,n,_⟩:=Iu nw nh nk .near (j:=15) J9 J9 (by rw[e9 w hh,ZW];grind) (by rw[e9 w hh,ZW];grind);exact⟨s,v,n⟩
end BF
namespace BF
open Lw
def rv (c:Nat):Rat:=(gv D c:Rat)*two (az D)
def Ar:List Nat→Bool
 | []=>true
 | [c]=>decide ((c:Int)<bE D)&&(decide (0<rv c)&&(decide (-1000≤log2 (rv c))&&decide (log2 (rv c)≤100)))
 | c::d::r=>decide ((c:Int)<bE D)&&(decide (0<rv c)&&(decide (-1000≤log2 (rv c))&&(decide (log2 (rv c)≤100)&&(decide (two (log2 (rv d)+1)≤rv c)&&Ar (d::r)))))
theorem Mx {c:Nat} (h:(c:Int)<bE D):Num D c false (rv c):=by
 have e:c=pat D false c:=by unfold pat;simp
 refine⟨by rw[e];exact lR D false (lI h (dB D)),?_⟩
 conv=>lhs;rw[e]
 exact mi D false h
theorem Ge (m:Mode) (z:Bool) {q:Rat} {j:Int} (hj:-1022≤j) (BG:j≤1023) (h0:0≤q) (h1:q≤two j) (hz:q=0→z=false) :
  ∃q',Num D (D.put m z q) false q'∧q'≤two j∧0≤q':=by
 have e1:D.leastExp=-1022:=by decide
 have e2:D.bias=1023:=by decide
 obtain⟨s,q',k,a,b,c,d,e,_⟩:=Io D cH m z (by rw[e1];exact hj) (by rw[e2];exact BG) h1 (by have:=two_pos j;grind);have hs:s=false:=by
  by_cases g:q=0
  ·rw[(d g).1];exact hz g
  ·exact c (by grind)
 subst hs;exact⟨q',⟨ez cH (lg D cH m z q),k⟩,a,e h0⟩
theorem NT {p q B:Rat} (h0:0≤p) (h1:p≤B) (h2:q≤1/2) (h3:-(1/2)≤q):-(B*(1/2))≤p*q∧p*q≤B*(1/2):=by
 have x1:=gu h2 h0;have x2:=gu h3 h0;have x3:=jF h1 (show (0:Rat)≤1/2 by grind);constructor<;>grind
theorem Iv {y:Nat} {s:Bool} {q:Rat} (ny:Num D y s q) (h1:q≤1/2) (h2:-(1/2)≤q) (l:List Nat):∀(c:Nat),Ar (c::l)=true→∃v,Num D (horner y (c::l)) false v∧0≤v∧v≤two (log2 (rv c)+2):=by
 induction l with
 | nil =>
  intro c h;simp only[Ar,cI,bj] at h;have ⟨_,b⟩:=g6 h.2.1;refine⟨rv c,Mx h.1,cz h.2.1,?_⟩;have:=gq (show log2 (rv c)+1≤log2 (rv c)+2 by omega);grind
 | cons d r ih =>
  intro c h;simp only[Ar,cI,bj] at h;obtain⟨hc,hp,hl,fk,AN,hr⟩:=h;obtain⟨v,nv,v0,v1⟩:=ih d hr;have ⟨_,b⟩:=g6 hp;have ⟨w1,w2⟩:=NT v0 v1 h1 h2;have e1:two (log2 (rv d)+2)*(1/2)=two (log2 (rv d)+1):=by
   rw[show log2 (rv d)+2=log2 (rv d)+1+1 by omega,iS (log2 (rv d)+1)];grind
  rw[e1] at w1 w2;have e2:two (log2 (rv c)+2)=2*two (log2 (rv c)+1):=by rw[←iS];congr 1;omega
  have nc:=Mx hc;show ∃v,Num D (D.fma .near (horner y (d::r)) y c) false v∧_;unfold Fmt.fma;rw[nv.kd,ny.kd,nc.kd];simp only[timesKinds,Fmt.addKinds];obtain⟨q',n,a,b'⟩:=Ge .near (zeroSign .near (v*q) (rv c) (false != s) false) (q:=v*q+rv c) (j:=log2 (rv c)+2) Kf Kf (by grind) (by rw[e2];grind) (fun _=>by
   unfold zeroSign;rw[ag (fun z=>by have:=z.2.1;grind)];rfl)
  exact⟨q',n,b',a⟩
theorem NU (m:Mode) {z:Nat} (hz:z<2*D.sign) (hn:D.isNan z=false):∃X:Nat,exp2 m z=pat D false X∧(X:Int)≤bE D:=by
 rcases sX D hz with ⟨s,X,e1,h1,h2,e⟩ | ⟨s,e1,e⟩ | ⟨s,X,e1,hX,S,p,e,hp,hS,r,_⟩
 ·rw[e1,iD D s h1] at hn;have:=lM hn;omega
 ·have hk:=cX D z hz;rw[e] at hk;unfold exp2;rw[←hk];show ∃X:Nat,(if s=true then D.zero false else D.inf false)=_∧_;cases s
  ·exact⟨(bE D).toNat,by rw[ag J9];exact wa D cH false,by have:=gh D cH;omega⟩
  ·exact⟨0,by rw[ao rfl];exact jR D false,by have:=gh D cH;omega⟩
 ·have n:Num D z s (bK s ((S:Rat)*two p)):=⟨hz,by rw[←cX D z hz,e];unfold bN;rw[bH rfl rfl]⟩;generalize bK s ((S:Rat)*two p)=q at n;unfold exp2;rw[n.kd];dsimp only;generalize TM:(if q < -1200 then (-1200:Rat) else if 1100<q then 1100 else q)=w;have b1:((-1200:Int):Rat)≤w:=by rw[←TM];show (-1200:Rat)≤_;split<;>(try split)<;>grind
  have b2:w≤((1100:Int):Rat):=by rw[←TM];show _≤(1100:Rat);split<;>(try split)<;>grind
  have nb:=lF b1 b2;generalize nearestEven w=k at nb;have h1:two (-1)=1/2:=by rfl
  have le:D.leastExp=-1022:=by decide
  have bi:D.bias=1023:=by decide
  obtain⟨sy,y,ny,y1,y2,_⟩:=mK cH .near false (q:=w-(k:Rat)) (j:=-1) (by rw[le];decide) (by rw[bi];decide) (by rw[h1];grind) (by rw[h1];grind);obtain⟨v,nv,v0,v1⟩:=Iv ny (by grind) (by grind) (EXP2.drop 1) 0x3ff0000000000000 (by decide +kernel);have nv':Num D (horner (D.put .near false (w-(k:Rat))) EXP2) false v:=nv;unfold Fmt.scale;rw[nv'.kd];dsimp only;have hv:0≤v*two k:=Rat.mul_nonneg v0 (Rat.le_of_lt (two_pos _));obtain⟨s',X',e',KO⟩:=F6 D cH m false (v*two k);refine⟨X',?_,KO⟩;have NV:s'=false:=by
   by_cases g:v*two k=0
   ·rw[g] at e';have:D.put m false 0=pat D false 0:=by unfold Fmt.put;rw[ao rfl];exact jR D false
    rw[this] at e';exact(Qr J9 (qX KO (dB D)) e').1.symm
   ·
    obtain⟨neg,n',d',n0,d0,eQ,BE⟩:=oY (v*two k);have Bt:neg=false:=by rw[BE g];exact bS (by grind)
    subst Bt;have uU:0<n':=by
     refine xB.mpr ⟨n0,fun z=>?_⟩;rw[←z] at eQ;exact g (by rw[eQ,dF];show (0:Rat)/d'*two 0=0;rw[bQ,bF,bF])
    obtain⟨c,j,_,_,_,_,_,_,hr⟩:=jQ D cH m false (power:=0) uU d0;rw[←eQ] at hr;unfold Fmt.put at e';rw[ag g] at e';rw[e',kj] at hr;cases s'
    ·rfl
    ·exfalso;unfold ws at hr;simp only[aJ,aO,aM] at hr;have a1:=dB D;split at hr
     ·split at hr<;>omega
     ·omega
  rw[e',NV]
def Qy:Nat:=0x4330000000000000
def qh (x:Nat):Ex:=if Qy≤x%D.sign then bN (ta D x).neg 0 0 else ta D x
def BI (x:Nat):Int:=eH (qh x).neg (dn .near (fX (qh x) 2))
def beyond (u:Ex) (n:Int):Ex:=if bC (cG .near u (fX (gI (-n)) (-2)))=true then bN u.neg 0 0 else cG .near u (fX (gI (-n)) (-2))
theorem kN (s:Bool) (S p:Int):(bN s S p).kind=.num s (bK s ((S:Rat)*two p)):=by unfold bN;rw[bH rfl rfl]
theorem wg {s:Bool} {S p:Int} (hS:0≤S) (n:Int):D.ofKind .near (beyond (bN s S p) n).kind=D.put .near s (bK s ((S:Rat)*two p)-(n:Rat)/4):=by
 have e0:fX (gI (-n)) (-2)=bN (decide (-n<0)) ((-n).natAbs:Int) (0+-2):=rfl;have WS:two (0+-2)=1/4:=by rfl
 have e1:(fX (gI (-n)) (-2)).kind=.num (decide (-n<0)) (-(n:Rat)/4):=by
  rw[e0];by_cases hn:-n=0
  ·have Hr:n=0:=by omega
   subst Hr;rw[kN];congr 1;rw[show ((((-0:Int)).natAbs:Int):Rat)=0 from rfl,bF,show -((0:Int):Rat)/4=0 from by show -(0:Rat)/4=0;grind];exact dF.mpr rfl
  ·rw[k9 hn,WS,iF];congr 1;grind
 have hsz:0≤(fX (gI (-n)) (-2)).size:=by rw[e0];show (0:Int)≤((-n).natAbs:Int);omega
 have pk:=qd D .near (u:=bN s S p) (v:=fX (gI (-n)) (-2)) hS hsz;have VF:D.ofKind .near (cG .near (bN s S p) (fX (gI (-n)) (-2))).kind=D.put .near (zeroSign .near (bK s ((S:Rat)*two p)) (-(n:Rat)/4) s (decide (-n<0))) (bK s ((S:Rat)*two p)-(n:Rat)/4):=by
  rw[pk,kN,e1];simp only[Fmt.addKinds];congr 1;grind
 unfold beyond;obtain⟨s',S',p',e2,e3⟩:∃s' S' p',cG .near (bN s S p) (fX (gI (-n)) (-2))=bN s' S' p'∧bK s' ((S':Rat)*two p')=bK s ((S:Rat)*two p)-(n:Rat)/4:=by
  have c1:=oZ (u:=bN s S p) (p:=min p (0+-2)) (by show _≤p;omega);have c2:=oZ (u:=fX (gI (-n)) (-2)) (p:=min p (0+-2)) (by rw[e0];show _≤(0+-2:Int);omega);have VG:((cnt (bN s S p) (min p (0+-2))+cnt (fX (gI (-n)) (-2)) (min p (0+-2)):Int):Rat)*two (min p (0+-2))=bK s ((S:Rat)*two p)-(n:Rat)/4:=by
   rw[dH,pL,c1,c2];have NP:=e1;rw[e0,kN] at NP;injection NP with _ ZX
   show bK s ((S:Rat)*two p)+bK (decide (-n<0)) ((((-n).natAbs:Int):Rat)*two (0+-2))=_;rw[ZX];grind
  unfold cG;dsimp only[bN,fX,gI,Bool.or_self,Bool.and_self];simp only[Bool.false_eq_true,if_false,Bool.false_and];by_cases z:cnt (bN s S p) (min p (0+-2))+cnt (fX (gI (-n)) (-2)) (min p (0+-2))=0
  ·refine⟨_,0,min p (0+-2),ao z,?_⟩;rw[←VG,z];rw[show (((0:Int):Rat)*two (min p (0+-2)))=0 from bF _];exact dF.mpr rfl
  ·refine⟨_,_,_,ag z,?_⟩;rw[←VG];have:=k9 (p:=min p (0+-2)) z;rw[kN] at this;injection this with _ k
 rw[e2] at VF ⊢;by_cases z:S'=0
 ·have hz:bC (bN s' S' p')=true:=by simp[bC,bN,z]
  rw[ao hz,kN];have q0:bK s ((S:Rat)*two p)-(n:Rat)/4=0:=by
   rw[←e3,dF,z];exact bF _
  rw[q0];show D.put .near s (bK s (((0:Int):Rat)*two 0))=_;congr 1;rw[dF];exact bF _
 ·have hz:¬bC (bN s' S' p')=true:=by simp[bC,bN,z]
  rw[ag hz,VF];refine kX D _ _ _ ?_;rw[←e3,Ne,dF,jg];rintro(w | w)
  ·exact z (jx.mp w)
  ·exact jk _ w
end BF
namespace BF
open Lw
def K1 (b:Bool) (x:Nat):Nat:=if b=true then D.negate x else x
theorem Gf (t:Fmt) {x:Nat} (h:Ok t) (o:Out t x):(x:Int)=ic t x (decide (aU t≤(x:Int))):=by
 have hx:=ez h o;unfold ic;rw[i9 t hx,Ik t hx];cases k:t.isNan x
 ·simp only[aO,aM];have ⟨ex,hX⟩:=jl t x hx
  conv=>lhs;rw[ex]
  rw[kj,uW]
 ·simp only[aJ];rw[←dM,←Qm o k]
theorem TN {x:Nat} (o:Out D x) (b:Bool):(K1 b x:Int)=ic D x (decide (aU D≤(x:Int)) != b):=by
 unfold K1;cases b
 ·simp only[aO,aM,Bool.bne_false];exact Gf D cH o
 ·simp only[aJ,Bool.bne_true];exact negate_eq D (ez cH o)
def yS:List Nat:=COSINE.drop 1
def BJ (x:Nat):Nat:=D.ofKind .near (beyond (qh x) (BI x)).kind
def o9 (m:Mode) (Mz:Int) (f:Nat):Nat :=
 if Mz%2=0 then D.mul m (K1 (decide (Mz=2)) f) (horner (D.mul .near f f) SINE)
 else D.fma m (K1 (decide (Mz=3)) (horner (D.mul .near f f) yS)) (D.mul .near f f) (K1 (decide (Mz=3)) hJ)
theorem Iw {x:Nat} {s:Bool} {q:Rat} (n:Num D x s q):BI x=(turnParts q).1∧BJ x=D.put .near s (turnParts q).2:=by
 obtain⟨X,e1,r,e2⟩:=n.repr;obtain⟨S,p,e,hp,hS,hq,_⟩:=Aq n;have r52:Repr D (2^52) Qy:=⟨J9,by decide +kernel⟩;have hX:=lI r.1 (dB D);have c:Qy≤x%D.sign↔2^52≤size q:=by
  have:=lT r r52;have hm:x%D.sign=X:=by rw[e1];exact v9 hX
  rw[hm,←Nat.not_lt,←this,dY]
 unfold BJ BI qh turnParts;by_cases k:2^52≤size q
 ·rw[ao (c.mpr k),ao k,e];have e0:eH (bN s 0 0).neg (dn .near (fX (bN s 0 0) 2))=0:=by
   have:dn .near (fX (bN s 0 0) 2)=0:=by
    unfold dn fX bN;rw[ao (show (0:Int)≤0+2 by decide)];exact Int.zero_mul _
   rw[this];unfold eH;split<;>rfl
  show eH (bN s 0 0).neg (dn .near (fX (bN s 0 0) 2))=0∧D.ofKind .near (beyond (bN s 0 0) (eH (bN s 0 0).neg (dn .near (fX (bN s 0 0) 2)))).kind=D.put .near s 0;rw[e0];refine⟨rfl,?_⟩;rw[wg J9];congr 1;have z1:bK s (((0:Int):Rat)*two 0)=0:=by rw[dF];exact bF _
  rw[z1];show (0:Rat)-0/4=0;grind
 ·rw[ag fun z=>k (c.mp z),ag k,e];have e0:eH (bN s S p).neg (dn .near (fX (bN s S p) 2))=nearestEven (4*q):=by
   have:=(mH .near (u:=fX (bN s S p) 2) hS).1;have e4:bK s ((S:Rat)*two (p+2))=4*q:=by
    rw[hq,aY,show two 2=4 from rfl,←bV,←mB];grind
   rw[←e4];exact this.symm
  rw[e0];refine⟨rfl,?_⟩;rw[wg hS,←hq]
theorem TQ (m:Mode) {x:Nat} {s:Bool} {q:Rat} (n:Num D x s q):sinTurn m x=o9 m ((BI x+0)%4) (BJ x)∧cosTurn m x=o9 m ((BI x+1)%4) (BJ x):=by
 have ⟨a,b⟩:=Iw n;unfold sinTurn cosTurn;rw[n.kd];dsimp only;rw[←a];have key:∀N:Int,turnStep m N s (turnParts q).2=o9 m (N%4) (BJ x):=fun N=>by
  unfold turnStep o9;rw[←b];have h0:=Int.emod_nonneg N (show (4:Int)≠0 by decide);have h1:=Int.emod_lt_of_pos N (show (0:Int)<4 by decide);generalize N%4=k at *;dsimp only;by_cases p:k%2=0
  ·rw[ao p,ao p];have:decide (2≤k)=decide (k=2):=by
    by_cases z:k=2
    ·simp[z]
    ·simp[z];omega
   rw[this];rfl
  ·rw[ag p,ag p];have:decide (2≤k)=decide (k=3):=by
    by_cases z:k=3
    ·simp[z]
    ·simp[z];omega
   rw[this];rfl
 exact⟨by rw[key,Int.add_zero],key _⟩
def km (u:Ex):Bool:=decide (0≤u.power)||decide (u.size%2^(-u.power).toNat=0)
def qF (u:Ex):Bool:=if 0<u.power then false else decide (u.size%2^(1-u.power).toNat=2^(-u.power).toNat)
theorem BK (q:Rat):isWhole q=true↔∃z:Int,q=z:=by
 unfold isWhole;rw[dE];constructor
 ·intro h;refine⟨q.num,?_⟩;have:=Hd q.num q.den;rw[He,h] at this;have e1:(q.num:Rat)/((1:Nat):Rat)=q.num:=by show (q.num:Rat)/1=q.num;rw[bQ];grind
  rw[e1] at this;exact this
 ·rintro⟨z,rfl⟩;exact Rat.den_intCast z
theorem Qz (q:Rat):(isWhole q&&q.num%2 != 0)=true↔∃z:Int,q=z∧z%2=1:=by
 rw[cI,BK,bne_iff_ne];constructor
 ·rintro⟨⟨z,rfl⟩,h⟩;rw[Rat.num_intCast] at h;exact⟨z,rfl,Kf⟩
 ·rintro⟨z,rfl,h⟩;rw[Rat.num_intCast];exact⟨⟨z,rfl⟩,Kf⟩
theorem K2 {a b:Int} (ha:0≤a) (hb:0≤b):(2:Int)^(a+b).toNat=2^a.toNat*2^b.toNat:=by
 rw[Int.toNat_add ha hb,ji]
theorem NW {s:Bool} {S p:Int}:isWhole (bK s ((S:Rat)*two p))=km (bN s S p):=by
 have key:isWhole (bK s ((S:Rat)*two p))=true↔km (bN s S p)=true:=by
  rw[BK];unfold km bN;rw[bR,bj,bj];by_cases hp:0≤p
  ·refine⟨fun _=>.inl hp,fun _=>⟨eH s (S*2^p.toNat),?_⟩⟩;rw[cW hp,←bh,kl]
  ·have e:(S:Rat)*two p*two (-p)=(S:Rat):=by rw[bV,←aY,show p+-p=0 by omega,de,cC]
   have hm:(0:Int)≤-p:=by omega
   constructor
   ·rintro⟨z,hz⟩;refine .inr ?_;have h2:bK s (S:Rat)=((z*2^(-p).toNat:Int):Rat):=by
     rw[bh,←cW hm,←hz,mB,e]
    rw[kl,rz] at h2;have:S=eH s z*2^(-p).toNat:=by
     unfold eH at h2 ⊢;cases s
     ·simpa using h2
     ·simp only[aJ] at h2 ⊢;rw[Int.neg_mul];omega
    show S%2^(-p).toNat=0;rw[this];exact Int.mul_emod_left _ _
   ·rintro(h | h)
    ·exact absurd h hp
    ·refine⟨eH s (S/2^(-p).toNat),?_⟩;have h3:S=S/2^(-p).toNat*2^(-p).toNat:=by
      have:=uT S (2^(-p).toNat);rw[show S%2^(-p).toNat=0 from h,iJ] at this;omega
     rw[←kl];congr 1
     conv=>lhs;rw[h3]
     rw[bh,←cW hm,bV,←aY,show -p+p=0 by omega,de,cC]
 exact kh.mpr key
theorem MA {s:Bool} {S p:Int} (hS:0≤S):(isWhole (bK s ((S:Rat)*two p))&&(bK s ((S:Rat)*two p)).num%2 != 0)=qF (bN s S p):=by
 refine kh.mpr ?_;rw[Qz];unfold qF bN;have sg:∀z:Int,(eH s z)%2=1↔z%2=1:=fun z=>by unfold eH;cases s<;>simp<;>omega
 have aeU:∀z:Int,eH s (eH s z)=z:=fun z=>by unfold eH;cases s<;>simp
 by_cases hp:0<p
 ·rw[ao hp];constructor
  ·rintro⟨z,hz,ho⟩;exfalso;rw[cW (bo hp),←bh,kl,rz] at hz;obtain⟨k,hk⟩:∃k,p.toNat=k+1:=⟨p.toNat-1,Kf⟩;have:z%2=1↔(S*2^p.toNat)%2=1:=by rw[←hz];exact sg _
   rw[hk,gy,←DK,Int.mul_emod_left] at this;omega
  ·intro h;cases h
 ·rw[ag hp,bj];have hm:(0:Int)≤-p:=by omega
  have e:(S:Rat)*two p*two (-p)=(S:Rat):=by rw[bV,←aY,show p+-p=0 by omega,de,cC]
  have hP:=aX (-p).toNat;have zv:(2:Int)^(1-p).toNat=2^(-p).toNat*2:=by
   rw[show 1-p=-p+1 by omega,K2 hm J9];rfl
  show _↔S%2^(1-p).toNat=2^(-p).toNat;rw[zv];constructor
  ·rintro⟨z,hz,ho⟩;have h2:bK s (S:Rat)=((z*2^(-p).toNat:Int):Rat):=by
    rw[bh,←cW hm,←hz,mB,e]
   rw[kl,rz] at h2;have h3:S=eH s z*2^(-p).toNat:=by
    unfold eH at h2 ⊢;cases s
    ·simpa using h2
    ·simp only[aJ] at h2 ⊢;rw[Int.neg_mul];omega
   have xH:=(sg z).mpr ho;generalize eH s z=w at *;generalize (2:Int)^(-p).toNat=P at *;have h4:w=2*(w/2)+1:=by omega
   generalize w/2=v at *;have h5:S=P+(P*2)*v:=by rw[h3,h4];grind
   rw[h5,Int.add_mul_emod_self_left];exact Hq Kf Kf
  ·intro h;generalize hPP:(2:Int)^(-p).toNat=P at *;have h2:=uT S (P*2);rw[h] at h2;refine⟨eH s (2*(S/(P*2))+1),?_,by rw[sg];omega⟩;have h3:S=(2*(S/(P*2))+1)*P:=by generalize S/(P*2)=v at *;grind
   rw[←kl];congr 1
   conv=>lhs;rw[h3]
   rw[bh,←hPP,←cW hm,bV,←aY,show -p+p=0 by omega,de,cC]
end BF
namespace BF
open Lw
def hG (t:Fmt) (x:Int):Bool:=decide (x%aU t=bE t)
def jT (m:Mode):Mode:=match m with
 | .down=>.up
 | .up=>.down
 | o=>o
def Gg (m:Mode) (x y:Nat):Int :=
 if (cp D x||cp D y)=true then nR D
 else if eA D y=true then hJ
 else if hG D y=true then
  (if (x:Int)%aU D=hJ then hJ else if decide ((x:Int)%aU D<hJ)=decide (aU D≤(y:Int)) then bE D else 0)
 else
  let neg:=decide (aU D≤(x:Int))&&qF (ta D y)
  if (eA D x||hG D x)=true then ws D neg (if eA D x=decide (aU D≤(y:Int)) then bE D else 0)
  else if (decide (aU D≤(x:Int))&&!km (ta D y))=true then nR D
  else ws D neg (exp2 (if neg=true then jT m else m) (D.mul .near y (logb .near (x%D.sign))))
inductive Way (t:Fmt) (x:Nat):Prop
 | nan (h1:cp t x=true) (h2:t.kind x=.nan)
 | inf (s:Bool) (h0:cp t x=false) (h1:hG t x=true) (h2:eA t x=false) (h3:t.kind x=.inf s) (h4:decide (aU t≤(x:Int))=s) (h5:ta t x=rG s) (h6:(x:Int)%aU t=bE t) (h7:x=t.inf s)
 | num (s:Bool) (X:Nat) (S p:Int) (h0:cp t x=false) (h1:hG t x=false) (h2:eA t x=decide (S=0)) (h3:t.kind x=.num s (bK s ((S:Rat)*two p))) (h4:decide (aU t≤(x:Int))=s)
  (h5:ta t x=bN s S p) (h6:az t≤p) (h7:0≤S) (h8:Repr t ((S:Rat)*two p) X) (h9:x=pat t s X) (tT:(x:Int)%aU t=X)
theorem way (t:Fmt) (h:Ok t) {x:Nat} (hx:x<2*t.sign):Way t x:=by
 have hk:=cX t x hx;have hi:=gh t h;have hls:=dB t;rcases sX t hx with ⟨s,X,e1,h1,h2,e⟩ | ⟨s,e1,e⟩ | ⟨s,X,e1,hX,S,p,e,hp,hS,r,z⟩
 ·refine .nan ?_ (by rw[←hk,e];rfl);unfold cp;rw[e1,(iC (neg:=s) h1).1];exact du h2
 ·have e2:x=pat t s (bE t).toNat:=by rw[e1];exact wa t h s
  have oS:(((bE t).toNat:Nat):Int)<aU t:=by omega
  have ⟨m1,m2⟩:=iC (neg:=s) oS;rw[←e2] at m1 m2;refine .inf s ?_ ?_ ?_ (by rw[←hk,e];rfl) m2 e Kf e1
  ·unfold cp;rw[m1];exact bS Kf
  ·unfold hG;rw[m1];exact du Kf
  ·unfold eA;rw[m1];exact bS Kf
 ·have oS:(X:Int)<aU t:=by omega
  have ⟨m1,m2⟩:=iC (neg:=s) oS;rw[←e1] at m1 m2;refine .num s X S p ?_ ?_ ?_ (by rw[←hk,e,kN]) m2 e hp hS r e1 m1
  ·unfold cp;rw[m1];exact bS Kf
  ·unfold hG;rw[m1];exact bS Kf
  ·unfold eA;rw[m1];by_cases k:X=0
   ·rw[du (z.mpr k)];exact du Kf
   ·rw[bS fun w=>k (z.mp w)];exact bS Kf
theorem yT (t:Fmt):(t.inf false:Int)=bE t:=by rw[lS];rfl
theorem wj (t:Fmt):(t.zero false:Int)=0:=by rw[o5];rfl
theorem iT {s:Bool} {S p:Int}:bK s ((S:Rat)*two p)=0↔S=0:=by
 rw[dF,jg];constructor
 ·rintro(w | w)
  ·exact jx.mp w
  ·exact absurd w (jk _)
 ·intro k;rw[k];exact .inl rfl
theorem lU {s:Bool} {S p:Int} (h:0<S):(bK s ((S:Rat)*two p)<0)↔s=true:=by
 have vp:0<(S:Rat)*two p:=fC (eW.mpr h) (two_pos _);have e:=Bq (neg:=s) vp;constructor
 ·intro z;rw[du z] at e;exact e.symm
 ·intro z;rw[z] at e ⊢;exact eU e
theorem Fc:Repr D 1 hJ:=⟨J9,by decide +kernel⟩
theorem NX (m:Mode) {x y:Nat} (hx:x<2*D.sign) (hy:y<2*D.sign):(power m x y:Int)=Gg m x y:=by
 unfold power Gg;have QA:((D.ofInt .near 1:Nat):Int)=(hJ:Int):=by rw[nU]
 rcases way D cH hx with ⟨x1,x2⟩ | ⟨s,x0,x1,x2,x3,x4,x5,x6,x7⟩ | ⟨s,X,S,p,x0,x1,x2,x3,x4,x5,x6,x7,x8,x9,Qg⟩
 ·rw[x1,x2];simp[dM]
 ·rcases way D cH hy with ⟨y1,y2⟩ | ⟨r,y0,y1,y2,y3,y4,y5,y6,y7⟩ | ⟨r,Y,T,q,y0,y1,y2,y3,y4,y5,y6,y7,y8,y9,y10⟩
  ·rw[y1,y2,x3];simp[dM]
  ·rw[x0,y0,y2,y1,y4,x6,x3,y3];simp only[eS,aO,aM,aJ];have i1:¬bE D=(hJ:Int):=by decide
   have i2:¬bE D<(hJ:Int):=by decide
   rw[ag i1];simp only[i2,k7];cases r
   ·simp[yT]
   ·simp[wj]
  ·rw[x0,y0,y2,y1,y4,x4,x2,x1,x3,y3,y5];simp only[eS,lJ,Bool.or_true,aO,aM,aJ];by_cases k:T=0
   ·rw[ao (iT.mpr k),du k,ao rfl];exact QA
   ·rw[ag fun z=>k (iT.mp z),bS k,ag dA];rw[MA y7];have hT:0<T:=by omega
    by_cases g:r=true
    ·rw[ao ((lU hT).mpr g),g];simp[o5]
    ·rw[ag fun z=>g ((lU hT).mp z)];have:r=false:=by cases r<;>simp_all
     rw[this];simp[lS]
 ·rcases way D cH hy with ⟨y1,y2⟩ | ⟨r,y0,y1,y2,y3,y4,y5,y6,y7⟩ | ⟨r,Y,T,q,y0,y1,y2,y3,y4,y5,y6,y7,y8,y9,y10⟩
  ·rw[y1,y2,x3];simp[dM]
  ·rw[x0,y0,y2,y1,y4,Qg,x3,y3];simp only[eS,aO,aM,aJ];have hv:size (bK s ((S:Rat)*two p))=(S:Rat)*two p:=Im s (qe x8);rw[hv];have c1:=lT x8 Fc;have c2:=lT Fc x8;have c3:(S:Rat)*two p=1↔(X:Int)=(hJ:Int):=by
    constructor
    ·intro z;have a1:¬X<hJ:=fun w=>by have:=c1.mpr w;grind
     have a2:¬hJ<X:=fun w=>by have:=c2.mpr w;grind
     omega
    ·intro z;have a1:¬(S:Rat)*two p<1:=fun w=>by have:=c1.mp w;omega
     have a2:¬1<(S:Rat)*two p:=fun w=>by have:=c2.mp w;omega
     grind
   by_cases k:(X:Int)=(hJ:Int)
   ·rw[ao (c3.mpr k),ao k];exact QA
   ·rw[ag fun z=>k (c3.mp z),ag k];have c4:decide ((S:Rat)*two p<1)=decide ((X:Int)<(hJ:Int)):=by
     by_cases w:X<hJ
     ·rw[du (c1.mpr w),du Kf]
     ·rw[bS fun z=>w (c1.mp z),bS Kf]
    rw[c4];by_cases w:decide ((X:Int)<(hJ:Int))=r
    ·rw[ao w,ao w];exact yT D
    ·rw[ag w,ag w];exact wj D
  ·rw[x0,y0,y2,y1,y4,x4,x2,x1,x3,y3,y5];simp only[eS,Hu,aO,aM];by_cases k:T=0
   ·rw[ao (iT.mpr k),du k,ao rfl];exact QA
   ·rw[ag fun z=>k (iT.mp z),bS k,ag dA];rw[MA y7,NW];have hT:0<T:=by omega
    by_cases e:S=0
    ·rw[ao (iT.mpr e),du e,ao rfl];by_cases g:r=true
     ·rw[ao ((lU hT).mpr g),g];simp[lS]
     ·rw[ag fun z=>g ((lU hT).mp z)];have:r=false:=by cases r<;>simp_all
      rw[this];simp[o5]
    ·rw[ag fun z=>e (iT.mp z),bS e,ag dA];have hS:0<S:=by omega
     by_cases w:s=true∧km (bN r T q)=false
     ·rw[ao w,ao (by rw[w.1,w.2];rfl)];exact dM D
     ·have w':¬(s&&!km (bN r T q))=true:=by
       intro z;apply w;simpa using z
      rw[ag w,ag w'];have TR:D.abs x=x%D.sign:=by
       unfold Fmt.abs;rw[←i9 D hx,x0,ag J9]
      rw[TR];have hX:=lI x8.1 (dB D);have QB:x%D.sign=X:=by rw[x9];exact v9 hX
      have nX:Num D (x%D.sign) false ((S:Rat)*two p):=by
       rw[QB];have ep:X=pat D false X:=by unfold pat;simp
       refine⟨by rw[ep];exact lR D false hX,?_⟩
       conv=>lhs;rw[ep]
       exact mF x8 false
      have vp:0<(S:Rat)*two p:=fC (eW.mpr hS) (two_pos _);obtain⟨sl,v,nl⟩:=Qx nX vp;generalize logb .near (x%D.sign)=L at *;have oz:Out D (D.mul .near y L):=by unfold Fmt.mul;exact fq D cH _ _
      have hz:D.isNan (D.mul .near y L)=false:=by
       unfold Fmt.mul;rw[y3,nl.kd];simp only[timesKinds,Fmt.ofKind];obtain⟨s',X',e',KO⟩:=F6 D cH .near (r != sl) (bK r ((T:Rat)*two q)*v);rw[e',iD D s' (qX KO (dB D))];exact bS Kf
      generalize D.mul .near y L=Z at *;obtain⟨E,eE,hE⟩:=NU (if (s&&qF (bN r T q))=true then jT m else m) (ez cH oz) hz;have ZY:=qX hE (dB D);cases Bt:(s&&qF (bN r T q))
      ·rw[Bt] at eE;simp only[aO,aM] at eE ⊢;rw[eE];unfold ws;simp
      ·rw[Bt] at eE;simp only[aJ] at eE ⊢;show ((D.negate (exp2 (jT m) Z):Nat):Int)=ws D true ((exp2 (jT m) Z:Nat):Int);rw[eE,negate_eq D (lR D false ZY)];have ⟨m1,m2⟩:=iC (neg:=false) ZY;unfold ic cp;rw[m1,m2,bS (show ¬bE D<(E:Int) by omega)];simp only[aO,aM,fR];congr 1;rw[kj];rfl
end BF
namespace BF
open Lw
theorem qi (k:Int):ten k=(10:Rat)^k:=by
 unfold ten;split
 ·next h =>
  obtain⟨n,rfl⟩:=aA h;rw[aN,nD]
 ·next h =>
  have e:k=-((-k).toNat:Int):=by omega
  conv=>rhs;rw[e,Rat.zpow_neg,nD]
  rw[bQ,jf]
theorem jB (k:Int):0<ten k:=by rw[qi];exact Rat.zpow_pos J9
theorem pd (a b:Int):ten (a+b)=ten a*ten b:=by
 rw[qi,qi,qi];exact Rat.zpow_add J9 a b
theorem jU:ten 0=1:=by rw[qi];exact Rat.zpow_zero 10
theorem QC:ten 1=10:=by rw[qi];exact Rat.zpow_one 10
theorem BL (n:Nat):ten (n:Int)=((10^n:Nat):Rat):=by
 rw[qi,nD,GZ];rfl
theorem sY (k:Int):ten (k+1)=10*ten k:=by rw[pd,QC,e9]
theorem BM (k:Int):ten (-k)*ten k=1:=by rw[←pd];rw[show -k+k=0 by omega,jU]
theorem qj {a b:Int} (h:a≤b):ten a≤ten b:=by
 obtain⟨n,e⟩:=aA (show 0≤b-a by omega);have:b=a+(n:Int):=by omega
 rw[this,pd];have h1:(1:Rat)≤ten (n:Int):=by
  rw[BL];have:1≤10^n:=Nat.one_le_pow _ _ J9;exact dP.mpr this
 have:=gu h1 (cz (jB a));rw[cC] at this;exact this
theorem TV {a b:Int} (h:a<b):ten a<ten b:=by
 have h1:=qj (show a+1≤b by omega);rw[sY] at h1;have:=jB a;grind
theorem jV {a b:Int}:ten a<ten b↔a<b:=by
 constructor
 ·intro h;by_cases q:a<b
  ·exact q
  ·have:=qj (show b≤a by omega);grind
 ·exact TV
theorem Iy {a b:Rat} (k:Int):a*ten k≤b*ten k↔a≤b :=
 ⟨fun h=>J2 h (jB k),fun h=>jF h (cz (jB k))⟩
theorem jW {a b:Rat} (k:Int):a*ten k<b*ten k↔a<b:=zt (jB k)
theorem K3:∀L:Nat,L≤1100→(10^((L:Int)*30103/100000-1).toNat≤2^L∧2^(L+1)≤10^((L:Int)*30103/100000+2).toNat):=by
 have:(List.range 1101).all (fun L=>decide (10^((L:Int)*30103/100000-1).toNat≤2^L∧2^(L+1)≤10^((L:Int)*30103/100000+2).toNat))=true:=by decide +kernel
 intro L hL;exact eU (nq.mp this L (oM.mpr Kf))
theorem Iz:∀L:Nat,L≤1100→0<L→(2^L≤10^(-((-(L:Int))*30103/100000-1)).toNat∧((-((-(L:Int))*30103/100000+2)≤0)∨10^(-((-(L:Int))*30103/100000+2)).toNat≤2^(L-1))):=by
 have:(List.range 1101).all (fun L=>decide (0<L→(2^L≤10^(-((-(L:Int))*30103/100000-1)).toNat∧((-((-(L:Int))*30103/100000+2)≤0)∨10^(-((-(L:Int))*30103/100000+2)).toNat≤2^(L-1)))))=true:=by decide +kernel
 intro L hL;exact eU (nq.mp this L (oM.mpr Kf))
theorem mL {k:Int} (h:0≤k):ten k=((10^k.toNat:Nat):Rat):=by
 obtain⟨n,rfl⟩:=aA h;rw[aN];exact BL n
theorem ot {L:Int} (h1:-1100≤L) (h2:L≤1100):ten (L*30103/100000-1)≤two L∧two (L+1)≤ten (L*30103/100000+2):=by
 by_cases h:0≤L
 ·obtain⟨n,rfl⟩:=aA h;have ⟨a,b⟩:=K3 n Kf;have hk:0≤(n:Int)*30103/100000:=by omega
  constructor
  ·by_cases q:0≤(n:Int)*30103/100000-1
   ·rw[mL q,dJ];exact dP.mpr a
   ·have e1:=qj (show (n:Int)*30103/100000-1≤0 by omega);have e2:=gq (show (0:Int)≤n by omega);rw[jU] at e1;rw[de] at e2;grind
  ·rw[show (n:Int)+1=((n+1:Nat):Int) from rfl,dJ,mL Kf];exact dP.mpr b
 ·obtain⟨n,hn⟩:=aA (show 0≤-L by omega);have hL:L=-(n:Int):=by omega
  subst hL;have ⟨a,b⟩:=Iz n Kf Kf;have i1:∀k:Nat,two (-(k:Int))*((2^k:Nat):Rat)=1:=fun k=>by rw[←dJ];exact oV _
  generalize hk:-(n:Int)*30103/100000=k at *;have P0:k<0:=by omega
  constructor
  ·have e1:ten (k-1)*ten (-(k-1))=1:=by rw[e9];exact BM _
   have e2:((2^n:Nat):Rat)≤ten (-(k-1)):=by rw[mL Kf];exact dP.mpr a
   have e3:=i1 n;have p1:=jB (k-1);have p2:=two_pos (-(n:Int));have e4:=gu e2 (cz p1);rw[e1] at e4;have e5:=gu e4 (cz p2);have e6:two (-(n:Int))*(ten (k-1)*((2^n:Nat):Rat))=ten (k-1)*(two (-(n:Int))*((2^n:Nat):Rat)):=by grind
   rw[e6,e3,cC,cC] at e5;exact e5
  ·rcases b with b | b
   ·have e1:=qj (show 0≤k+2 by omega);have e2:=gq (show -(n:Int)+1≤0 by omega);rw[jU] at e1;rw[de] at e2;grind
   ·by_cases q:0≤k+2
    ·have e1:=qj q;have e2:=gq (show -(n:Int)+1≤0 by omega);rw[jU] at e1;rw[de] at e2;grind
    ·have e1:ten (k+2)*ten (-(k+2))=1:=by rw[e9];exact BM _
     have e2:ten (-(k+2))≤((2^(n-1):Nat):Rat):=by rw[mL Kf];exact dP.mpr b
     have e3:=i1 (n-1);rw[show -((n-1:Nat):Int)=-(n:Int)+1 by omega] at e3;have p1:=jB (k+2);have p2:=two_pos (-(n:Int)+1);have e4:=gu e2 (cz p1);rw[e1] at e4;have e5:=gu e4 (cz p2);have e6:two (-(n:Int)+1)*(ten (k+2)*((2^(n-1):Nat):Rat))=ten (k+2)*(two (-(n:Int)+1)*((2^(n-1):Nat):Rat)):=by grind
     rw[e6,e3,cC,cC] at e5;exact e5
theorem nV {q:Rat} (hq:0<q) (h1:-1100≤log2 q) (h2:log2 q≤1100):ten (log10 q)≤q∧q<ten (log10 q+1):=by
 have ⟨a,b⟩:=g6 hq;have ⟨c,d⟩:=ot h1 h2;unfold log10;dsimp only;generalize log2 q*30103/100000=k at *;split
 ·next h=>rw[show k-1+1=k by omega];exact⟨by grind,h⟩
 ·next h =>
  split
  ·next h3=>exact⟨h3,by rw[show k+1+1=k+2 by omega];grind⟩
  ·next h3=>exact⟨by grind,by grind⟩
theorem NY {q:Rat} {k:Int} (hq:0<q) (h1:-1100≤log2 q) (h2:log2 q≤1100) (h3:ten k≤q) (h4:q<ten (k+1)):log10 q=k:=by
 have ⟨a,b⟩:=nV hq h1 h2;have c:=jV.mp (show ten k<ten (log10 q+1) by grind);have d:=jV.mp (show ten (log10 q)<ten (k+1) by grind);omega
theorem kO (w:Rat) (z:Int):nearestEven w=z↔((z:Rat)-1/2<w∨(z%2=0∧w=(z:Rat)-1/2))∧(w<(z:Rat)+1/2∨(z%2=0∧w=(z:Rat)+1/2)):=by
 unfold nearestEven;dsimp only;have f1:=Rat.floor_le (w+1/2);have f2:=Rat.lt_floor_add_one (w+1/2);rw[Rat.intCast_add] at f2;have f2':w+1/2<((w+1/2).floor:Rat)+1:=f2;clear f2;generalize (w+1/2).floor=n at *;have TX:∀a b:Int,(a:Rat)<(b:Rat)+1→a≤b:=fun a b h=>by
  have:(a:Rat)<((b+1:Int):Rat):=by rw[dH];exact h
  have:=mz.mp this;omega
 have cm:((n-1:Int):Rat)=(n:Rat)-1:=by rw[nr];rfl
 by_cases h:(n:Rat)=w+1/2∧n%2≠0
 ·rw[ao h];obtain⟨h1,h2⟩:=h;constructor
  ·rintro rfl;rw[cm];exact⟨.inl (by grind),.inr ⟨Kf,by grind⟩⟩
  ·rintro⟨a,b⟩;have z1:z≤n:=TX z n (by grind);have z2:n≤z+1:=by
    have:=TX n (z+1) (by rw[dH];show _<(z:Rat)+1+1;grind);exact this
   by_cases e:z=n
   ·subst e;rcases a with a | a
    ·grind
    ·omega
   ·omega
 ·rw[ag h];constructor
  ·rintro rfl;refine⟨?_,.inl (by grind)⟩;by_cases e:(n:Rat)=w+1/2
   ·exact .inr ⟨qQ fun k=>absurd ⟨e,k⟩ h,by grind⟩
   ·exact .inl (by grind)
  ·rintro⟨a,b⟩;have z1:z≤n:=TX z n (by grind);have z2:n≤z+1:=TX n (z+1) (by rw[dH];show _<(z:Rat)+1+1;grind);by_cases e:n=z
   ·exact e
   ·have e':n=z+1:=by omega
    subst e';rw[dH] at f1;have f1':(z:Rat)+1≤w+1/2:=f1;have hw:w=(z:Rat)+1/2:=by rcases b with b | b<;>grind
    rcases b with b | b
    ·grind
    ·exfalso;apply h;refine⟨by rw[dH];show (z:Rat)+1=_;grind,Kf⟩
end BF
namespace BF
open Lw
def mM (t:Fmt) (S p:Int):Rat:=if S=2^t.m∧az t<p then (S:Rat)-1/4 else (S:Rat)-1/2
def Within (t:Fmt) (S p:Int) (v:Rat):Prop :=
 (mM t S p*two p<v∨(S%2=0∧v=mM t S p*two p))∧(v<((S:Rat)+1/2)*two p∨(S%2=0∧v=((S:Rat)+1/2)*two p))
structure Norm (t:Fmt) (S p:Int) (X:Nat):Prop where
 s0:0<S
 s1:S<2^(t.m+1)
 p0:az t≤p
 s2:az t<p→2^t.m≤S
 x:(X:Int)=(p-az t)*2^t.m+S
 xi:(X:Int)<bE t
theorem IA (t:Fmt):((2^t.m:Int):Rat)=two (t.m:Int):=(gc t.m).symm
theorem qk (t:Fmt) (h:Ok t) {S p:Int} {X:Nat} (N:Norm t S p X) {v:Rat} (hv:0<v):t.round .near v=X↔Within t S p v:=by
 obtain⟨neg,n,d,n0,d0,eQ,BE⟩:=oY v;have Bt:neg=false:=by rw[BE (by grind)];exact bS (by grind)
 subst Bt;have uU:0<n:=by
  refine xB.mpr ⟨n0,fun z=>?_⟩;rw[←z] at eQ;have:v=0:=by rw[eQ,dF];show (0:Rat)/d*two 0=0;rw[bQ,bF,bF]
  grind
 obtain⟨c,j,_,e1,e2,c1,c2,_,hr⟩:=jQ t h .near false (power:=0) uU d0;rw[←eQ] at e1 e2 hr;have hi:=gh t h;have WW:t.round .near v=X↔(c:Rat)*two (az t+j)=(S:Rat)*two p:=by
  have hX:X=(p-az t).toNat*2^t.m+S.toNat:=by
   have e3:(((p-az t).toNat*2^t.m+S.toNat:Nat):Int)=(p-az t)*2^t.m+S:=by
    rw[cJ,eR,bO,fz (by have:=N.p0;omega),fz (by have:=N.s0;omega)]
   have:=N.x;omega
  have NZ:S.toNat≤2^(t.m+1):=by have:=N.s1;have:=bO (t.m+1);omega
  have WX:0<(p-az t).toNat→2^t.m≤S.toNat:=fun z=>by have:=N.s2 Kf;have:=bO t.m;omega
  have g1:=rH t NZ WX;rw[←hX] at g1;have g2:=rH t c1 c2;have v1:(S:Rat)*two p=(gv t X:Rat)*two (az t):=by
   rw[g1,eD,←dJ,fz (by have:=N.p0;omega),bV,←aY,show p-az t+az t=p by omega];congr 1;rw[←bu,fz (by have:=N.s0;omega)]
  have v2:(c:Rat)*two (az t+j)=(gv t (j*2^t.m+c):Rat)*two (az t):=by
   rw[g2,eD,←dJ,bV,←aY];congr 2;omega
  rw[v1,v2,fo,Hw];have inj:gv t (j*2^t.m+c)=gv t X↔j*2^t.m+c=X:=by
   constructor
   ·intro z;rcases Nat.lt_trichotomy (j*2^t.m+c) X with w | w | w
    ·have:=Bu t w;omega
    ·exact w
    ·have:=Bu t w;omega
   ·intro z;rw[z]
  rw[inj];have hc:((j*2^t.m+c:Nat):Int)=(j:Int)*2^t.m+c:=by rw[cJ,eR,bO]
  have xi:=N.xi;constructor
  ·intro z;rw[z] at hr;unfold ws at hr;simp only[aO,aM,Mode.beyond,aJ] at hr;split at hr<;>omega
  ·intro z;have:((t.round .near v:Nat):Int)=(X:Int):=by
    rw[hr];unfold ws;simp only[aO,aM];rw[ag Kf];omega
   exact i5 this
 rw[WW];have ⟨l1,l2⟩:=g6 hv;rw[oX] at e1;have hw:(eH false (c:Int))=(c:Int):=rfl;rw[hw] at e2;have iW:nearestEven (v/two (az t+j))=(c:Int):=e2;have nI:=(kO (v/two (az t+j)) (c:Int)).mp iW;rw[bu] at nI;generalize hu:az t+(j:Int)=u at *;have vw:v=v/two u*two u:=(ve (jk u)).symm;generalize v/two u=w at *;have tm:=IA t;have N0:=N.s0;have N1:=N.s1;have Np:=N.p0;have N2:=N.s2;have hp2:(2:Int)^(t.m+1)=2*2^t.m:=by rw[gy];omega
 have hM:=aX t.m;have TY:(2:Int)^t.m%2=0:=by rw[E6 t h];omega
 have tp:=two_pos p;have SM:az t<p→((2^t.m:Int):Rat)≤(S:Rat):=fun z=>oU.mpr (N2 z);constructor
 ·intro e;by_cases up:u=p
  ·subst up;have WY:(c:Rat)=(S:Rat):=(fo _).mp e;have ecI:(c:Int)=S:=by
    rw[←bu] at WY;exact rz.mp WY
   rw[WY,ecI] at nI;unfold Within;constructor
   ·unfold mM;by_cases uY:S=2^t.m∧az t<u
    ·rw[ao uY];refine .inl ?_;have:log2 v=u+t.m:=by omega
     rw[this] at l1;have:two (u+(t.m:Int))=(S:Rat)*two u:=by rw[aY,←tm,uY.1,e9]
     rw[this] at l1;have:((S:Rat)-1/4)*two u<(S:Rat)*two u:=(cq _).mpr (by grind);grind
    ·rw[ag uY,vw,cq,fo];exact nI.1
   ·rw[vw,cq,fo];exact nI.2
  ·by_cases ul:u<p
   ·
    obtain⟨k,hk⟩:=aA (show 0≤p-u-1 by omega);have eI:(c:Int)=S*2^(k+1):=by
     have:(c:Rat)*two u=((S*2^(k+1):Int):Rat)*two u:=by
      rw[e,bh,←gc,bV,←aY];congr 2;omega
     have:=(fo _).mp this;rw[←bu] at this;exact rz.mp this
    have cb:(c:Int)≤2*2^t.m:=by have:=bO (t.m+1);omega
    have S2:=N2 Kf;have P0:k=0:=by
     refine qQ fun z=>?_;have:(2:Int)^2≤2^(k+1):=gO Kf;have:S*2^2≤S*2^(k+1):=qB this Kf;omega
    subst P0;have hS:S=2^t.m:=by
     rw[show (2:Int)^(0+1)=2 from rfl] at eI;omega
    have uY:S=2^t.m∧az t<p:=⟨hS,Kf⟩;have pu:two p=2*two u:=by rw[←iS];congr 1;omega
    have cR:(c:Rat)=2*(S:Rat):=by
     rw[←bu,eI,bh,e9];rfl
    unfold Within mM;rw[ao uY];have eL:((S:Rat)-1/4)*two p=(2*(S:Rat)-1/2)*two u:=by rw[pu];grind
    constructor
    ·rw[eL,vw,cq,fo,←cR];rcases nI.1 with z | z
     ·exact .inl z
     ·exact .inr ⟨by rw[hS];exact TY,z.2⟩
    ·refine .inl ?_;have:log2 v≤u+t.m:=by omega
     have h3:=gq (show log2 v+1≤u+t.m+1 by omega);have h4:two (u+t.m+1)=(S:Rat)*two p:=by rw[hS,tm,←aY];congr 1;omega
     rw[h4] at h3;have:(S:Rat)*two p<((S:Rat)+1/2)*two p:=(cq _).mpr (by grind);grind
   ·exfalso;obtain⟨k,hk⟩:=aA (show 0≤u-p-1 by omega);have eI:S=(c:Int)*2^(k+1):=by
     have:(S:Rat)*two p=(((c:Int)*2^(k+1):Int):Rat)*two p:=by
      rw[←e,bh,←gc,bV,←aY,bu];congr 2;omega
     exact rz.mp ((fo _).mp this)
    have c3:(2:Int)^t.m≤c:=by have:=c2 Kf;have:=bO t.m;omega
    have:(2:Int)^1≤2^(k+1):=gO Kf;have:(c:Int)*2^1≤(c:Int)*2^(k+1):=qB this Kf;omega
 ·rintro⟨a,b⟩;have S1R:(S:Rat)≤two ((t.m:Int)+1)-1:=by
   have z:S≤2*2^t.m-1:=by omega
   have z2:=oU.mpr z;rw[nr,bh,tm] at z2;rw[iS];exact z2
  have vhi:v<two ((t.m:Int)+1)*two p:=by
   have:((S:Rat)+1/2)*two p<two ((t.m:Int)+1)*two p:=(cq _).mpr (by grind);rcases b with b | b<;>grind
  rw[←aY] at vhi;have lv:log2 v<t.m+1+p:=ee.mp (by grind);by_cases up:u=p
  ·subst up;have key:nearestEven w=S:=by
    rw[kO];constructor
    ·unfold mM at a;by_cases uY:S=2^t.m∧az t<u
     ·rw[ao uY,vw,cq,fo] at a;refine .inl ?_;rcases a with a | a<;>grind
     ·rw[ag uY,vw,cq,fo] at a;exact a
    ·rw[vw,cq,fo] at b;exact b
   rw[iW] at key;rw[←key,bu]
  ·have ul:u<p:=by omega
   have gG:az t<p:=by omega
   have lv2:log2 v<p+t.m:=by omega
   have vlt:v<two (p+t.m):=by
    have:=gq (show log2 v+1≤p+t.m by omega);grind
   have hS:S=2^t.m:=by
    refine qQ fun z=>?_;have z2:2^t.m+1≤S:=by have:=N2 gG;omega
    have z3:=oU.mpr z2;rw[dH,tm] at z3;have z3':two (t.m:Int)+1≤(S:Rat):=z3;unfold mM at a;rw[ag fun k=>z k.1] at a;have:two (t.m:Int)*two p<((S:Rat)-1/2)*two p:=(cq _).mpr (by grind);rw[←aY,show (t.m:Int)+p=p+t.m by omega] at this;rcases a with a | a<;>grind
   have uY:S=2^t.m∧az t<p:=⟨hS,gG⟩;unfold mM at a;rw[ao uY] at a;have vge:two (p+t.m-1)≤v:=by
    have ZJ:=h.m1;have S2:(2:Rat)≤(S:Rat):=by
     have:(2:Int)^1≤2^t.m:=gO ZJ;have:(2:Int)≤S:=by omega
     exact oU.mpr this
    have e3:two (p+t.m-1)=((S:Rat)*(1/2))*two p:=by
     have:(S:Rat)*two p=2*two (p+t.m-1):=by rw[←iS,hS,tm,←aY];congr 1;omega
     grind
    rw[e3];have:((S:Rat)*(1/2))*two p≤((S:Rat)-1/4)*two p:=(cB _).mpr (by grind);rcases a with a | a<;>grind
   have aeV:p+t.m-1<log2 v+1:=ee.mp (by grind);have hup:u=p-1:=by omega
   have pu:two p=2*two u:=by rw[←iS];congr 1;omega
   have key:nearestEven w=2*S:=by
    rw[kO,bh];show ((2:Rat)*S-1/2<w∨_)∧(w<(2:Rat)*S+1/2∨_);have eL:((S:Rat)-1/4)*two p=(2*(S:Rat)-1/2)*two u:=by rw[pu];grind
    rw[eL,vw,cq,fo] at a;constructor
    ·rcases a with a | a
     ·exact .inl a
     ·exact .inr ⟨Kf,a.2⟩
    ·refine .inl ?_;have e5:two (p+t.m)=(2*(S:Rat))*two u:=by rw[aY,hS,tm,pu];grind
     rw[e5,vw,cq] at vlt;grind
   rw[iW] at key;have:(c:Rat)=2*(S:Rat):=by rw[←bu,key,bh];rfl
   rw[this,pu];grind
end BF
namespace BF
open Lw
def jq (t:Fmt) (x:Nat) (q:Rat) (E:Int):Option Nat :=
 let d:=(q/ten E).floor.toNat;let back (c:Nat):Bool:=t.round .near ((c:Rat)*ten E)==x
 if back d=true then (if back (d+1)=true then some (nearer q E d (d+1)) else some d) else if back (d+1)=true then some (d+1) else none
theorem BN (t:Fmt) (x:Nat) (q:Rat) (n:Nat):withDigits t x q n=(jq t x q (log10 q-(n:Int)+1)).map fun d=>(d,log10 q-(n:Int)+1):=by
 unfold withDigits jq;dsimp only;split
 ·split<;>rfl
 ·split<;>rfl
def xV (below M d:Int):Int:=if 2*M-(2*below+1)*d=0 then below+below%2 else if 2*M-(2*below+1)*d<0 then below else below+1
def between (L M H d:Int) (VJ:Bool):Option Int :=
 let bf:=decide (L<M/d*d)||(VJ&&decide (M/d*d=L));let af:=decide ((M/d+1)*d<H)||(VJ&&decide ((M/d+1)*d=H))
 if (bf&&af)=true then some (xV (M/d) M d) else if bf=true then some (M/d) else if af=true then some (M/d+1) else none
theorem jX {a b:Rat} {d:Int} (hd:0<d):a*(d:Rat)<b*(d:Rat)↔a<b:=zt (eW.mpr hd)
theorem N3 {a b:Rat} {d:Int} (hd:0<d):a*(d:Rat)=b*(d:Rat)↔a=b:=by
 have qY:(0:Rat)<d:=eW.mpr hd;constructor
 ·intro h;have h1:=(jX (a:=a) (b:=b) hd);have h2:=(jX (a:=b) (b:=a) hd);have n1:¬a<b:=fun z=>by have:=h1.mpr z;grind
  have n2:¬b<a:=fun z=>by have:=h2.mpr z;grind
  grind
 ·intro h;rw[h]
theorem wk {a L unit d low:Int} {E p2:Int} (hd:0<d) (hu:(unit:Rat)*ten E=two p2*d) (hL:L=low*unit) :
  (L<a*d↔(low:Rat)*two p2<(a:Rat)*ten E)∧(a*d<L↔(a:Rat)*ten E<(low:Rat)*two p2)∧(a*d=L↔(a:Rat)*ten E=(low:Rat)*two p2):=by
 have e1:(L:Rat)*ten E=(low:Rat)*two p2*d:=by rw[hL,bh,bV,hu];grind
 have e2:((a*d:Int):Rat)*ten E=(a:Rat)*ten E*d:=by rw[bh];grind
 refine⟨?_,?_,?_⟩
 ·rw[←mz,←jW E,e1,e2,jX hd]
 ·rw[←mz,←jW E,e1,e2,jX hd]
 ·rw[←N3 hd,←e1,←e2];constructor
  ·intro z;rw[z]
  ·intro z;have n1:¬(a*d)<L:=fun w=>by have:=(jW E).mpr (mz.mpr w);grind
   have n2:¬L<(a*d):=fun w=>by have:=(jW E).mpr (mz.mpr w);grind
   omega
theorem yU (t:Fmt) (h:Ok t) {S p:Int} {X:Nat} (N:Norm t S p X) {E unit d:Int} (hE:ten E≤(S:Rat)*two p) (d0:0<d) (hu:(unit:Rat)*ten E=two (p-2)*d) :
  between ((4*S-(if S=2^t.m∧az t<p then 1 else 2))*unit) (4*S*unit) ((4*S+2)*unit) d (decide (S%2=0))=(jq t X ((S:Rat)*two p) E).map Int.ofNat:=by
 have p4:two p=4*two (p-2):=by
  have:two p=two 2*two (p-2):=by rw[←aY];congr 1;omega
  rw[this];rfl
 have tp:=two_pos (p-2);have tE:=jB E;have vM:((4*S:Int):Rat)*two (p-2)=(S:Rat)*two p:=by rw[bh,p4];show (4:Rat)*S*_=_;grind
 have vH:((4*S+2:Int):Rat)*two (p-2)=((S:Rat)+1/2)*two p:=by rw[dH,bh,p4];show ((4:Rat)*S+2)*_=_;grind
 have vL:((4*S-(if S=2^t.m∧az t<p then 1 else 2):Int):Rat)*two (p-2)=mM t S p*two p:=by
  unfold mM;rw[nr,bh,p4];split
  ·show ((4:Rat)*S-1)*_=_;grind
  ·show ((4:Rat)*S-2)*_=_;grind
 generalize VL:(4*S-(if S=2^t.m∧az t<p then 1 else 2):Int)=low at *;generalize hb:4*S*unit/d=b;have Z0:=wk (a:=b) (L:=4*S*unit) (low:=4*S) d0 hu rfl;have Z1:=wk (a:=b+1) (L:=4*S*unit) (low:=4*S) d0 hu rfl;rw[vM] at Z0 Z1;have b1:(b:Rat)*ten E≤(S:Rat)*two p:=by
  refine dY.mp fun z=>?_;have:=Z0.1.mpr z;have h2:=Int.ediv_mul_le (4*S*unit) (jw d0);rw[hb] at h2;omega
 have b2:(S:Rat)*two p<((b+1:Int):Rat)*ten E:=by
  refine Z1.1.mp ?_;have h2:=Int.lt_ediv_add_one_mul_self (4*S*unit) d0;rw[hb] at h2;exact h2
 have WM:((S:Rat)*two p/ten E).floor=b:=by
  refine gK ?_ ?_
  ·refine dY.mp fun z=>?_;rw[iM tE] at z;grind
  ·rw[iM tE];have:((b+1:Int):Rat)=(b:Rat)+1:=dH b 1;rw[←this];exact b2
 have Z2:0<b:=by
  have:ten E<((b+1:Int):Rat)*ten E:=by grind
  have h1:(1:Rat)*ten E<((b+1:Int):Rat)*ten E:=by rw[jf];exact this
  have:=(jW E).mp h1;have:((1:Int):Rat)<((b+1:Int):Rat):=this;have:=mz.mp this;omega
 obtain⟨n,hn⟩:=aA (bo Z2);subst hn;have cn:(((n:Nat):Int):Rat)=(n:Rat):=bu n;have Z3:(((n:Int)+1:Int):Rat)=((n+1:Nat):Rat):=by rw[←bu];rfl
 rw[cn] at b1;rw[Z3] at b2;have QD:0<n:=by omega
 have S0:=N.s0;have WZ:mM t S p*two p<(S:Rat)*two p:=by
  refine(cq _).mpr ?_;unfold mM;split<;>grind
 have Gh:(S:Rat)*two p<((S:Rat)+1/2)*two p:=(cq _).mpr (by grind);have W0:(t.round .near ((n:Rat)*ten E)==X)=(decide (low*unit<(n:Int)*d)||(decide (S%2=0)&&decide ((n:Int)*d=low*unit))):=by
  have c:=wk (a:=(n:Int)) (L:=low*unit) (low:=low) d0 hu rfl;rw[vL,cn] at c;have r:=qk t h N (v:=(n:Rat)*ten E) (fC (qZ.mpr QD) tE);refine kh.mpr ?_;rw[dE,r,bR,bj,cI,bj,bj,c.1,c.2.2];unfold Within;constructor
  ·exact fun z=>z.1
  ·exact fun z=>⟨z,.inl (by grind)⟩
 have W2:(t.round .near (((n+1:Nat):Rat)*ten E)==X)=(decide (((n:Int)+1)*d<(4*S+2)*unit)||(decide (S%2=0)&&decide (((n:Int)+1)*d=(4*S+2)*unit))):=by
  have c:=wk (a:=(n:Int)+1) (L:=(4*S+2)*unit) (low:=4*S+2) d0 hu rfl;rw[vH,Z3] at c;have r:=qk t h N (v:=((n+1:Nat):Rat)*ten E) (fC (qZ.mpr Kf) tE);refine kh.mpr ?_;rw[dE,r,bR,bj,cI,bj,bj,c.2.1,c.2.2];unfold Within;constructor
  ·exact fun z=>z.2
  ·exact fun z=>⟨.inl (by grind),z⟩
 have W3:(nearer ((S:Rat)*two p) E n (n+1):Int)=xV n (4*S*unit) d:=by
  unfold nearer xV;dsimp only;have s1:size ((n:Rat)*ten E-(S:Rat)*two p)=(S:Rat)*two p-(n:Rat)*ten E:=by
   unfold size;split<;>grind
  have s2:size (((n+1:Nat):Rat)*ten E-(S:Rat)*two p)=((n+1:Nat):Rat)*ten E-(S:Rat)*two p:=by
   unfold size;split<;>grind
  rw[s1,s2];have c:=wk (a:=2*(n:Int)+1) (L:=2*(4*S*unit)) (low:=2*(4*S)) d0 hu (by grind);have e3:((2*(n:Int)+1:Int):Rat)=(n:Rat)+((n+1:Nat):Rat):=by
   rw[←bu,←bu,←dH];exact rz.mpr Kf
  have e4:((2*(4*S):Int):Rat)*two (p-2)=2*((S:Rat)*two p):=by
   rw[bh,bV,vM];rfl
  rw[e3,e4,pL] at c;have g1:2*(4*S*unit)-(2*(n:Int)+1)*d=0↔(2*(n:Int)+1)*d=2*(4*S*unit):=by omega
  have g2:2*(4*S*unit)-(2*(n:Int)+1)*d<0↔2*(4*S*unit)<(2*(n:Int)+1)*d:=by omega
  by_cases k1:(2*(n:Int)+1)*d=2*(4*S*unit)
  ·have k1':=c.2.2.mp k1;rw[ao (g1.mpr k1)];by_cases ev:n%2=0
   ·rw[ao (.inr ⟨by grind,ev⟩)];omega
   ·rw[ag]
    ·omega
    ·rintro(z | z)
     ·grind
     ·exact ev z.2
  ·rw[ag fun z=>k1 (g1.mp z)];by_cases k2:2*(4*S*unit)<(2*(n:Int)+1)*d
   ·have k2':=c.1.mp k2;rw[ao (g2.mpr k2),ao (.inl (by grind))]
   ·have k3:(2*(n:Int)+1)*d<2*(4*S*unit):=by omega
    have k3':=c.2.1.mp k3;rw[ag fun z=>k2 (g2.mp z),ag]
    ·rfl
    ·rintro(z | z)<;>grind
 unfold jq between;dsimp only;simp only[WM,hb,Int.toNat_natCast,W0,W2];generalize (decide (low*unit<(n:Int)*d)||(decide (S%2=0)&&decide ((n:Int)*d=low*unit)))=B1;generalize (decide (((n:Int)+1)*d<(4*S+2)*unit)||(decide (S%2=0)&&decide (((n:Int)+1)*d=(4*S+2)*unit)))=B2;cases B1<;>cases B2<;>simp[←W3]
theorem found (t:Fmt) (h:Ok t) (hm:t.m≤52) {S p:Int} {X:Nat} (N:Norm t S p X) {E:Int} (hE:ten (E+16)≤(S:Rat)*two p):∃D,jq t X ((S:Rat)*two p) E=some D:=by
 have tE:=jB E;have TZ:ten (E+16)=10000000000000000*ten E:=by rw[pd,e9];rfl
 rw[TZ] at hE;have tp:=two_pos p;have Z4:=Rat.floor_le ((S:Rat)*two p/ten E);have VN:=Rat.lt_floor_add_one ((S:Rat)*two p/ten E);have T1:(1:Rat)≤(S:Rat)*two p/ten E:=by
  refine dY.mp fun z=>?_;rw[iM tE] at z;grind
 have ZU:1≤((S:Rat)*two p/ten E).floor:=Rat.le_floor_iff.mpr T1;unfold jq;dsimp only;generalize hb:((S:Rat)*two p/ten E).floor=b at *;obtain⟨n,rfl⟩:=Int.eq_ofNat_of_zero_le (show 0≤b by omega);rw[Int.toNat_natCast];have b1:(n:Rat)*ten E≤(S:Rat)*two p:=by
  rw[bu] at Z4;refine dY.mp fun z=>?_;have:=(iM tE).mpr z;grind
 have b2:(S:Rat)*two p<((n+1:Nat):Rat)*ten E:=by
  have e:(((n:Int)+1:Int):Rat)=((n+1:Nat):Rat):=by rw[←bu];rfl
  rw[e] at VN;exact(iM tE).mp VN
 have e1:((n+1:Nat):Rat)*ten E=(n:Rat)*ten E+ten E:=by
  rw[xA,pL];show _+1*ten E=_;rw[jf]
 have QD:0<n:=by omega
 have r1:=qk t h N (v:=(n:Rat)*ten E) (fC (qZ.mpr QD) tE);have r2:=qk t h N (v:=((n+1:Nat):Rat)*ten E) (fC (qZ.mpr Kf) tE);have S0:=N.s0;have S1:=N.s1;have pw:(2:Int)^(t.m+1)≤2^53:=gO Kf;have pw2:(2:Int)^t.m≤2^52:=gO Kf;have SR:(S:Rat)≤9007199254740992:=by
  have:S≤9007199254740992:=by omega
  exact oU.mpr this
 have Sv:(S:Rat)*two p≤9007199254740992*two p:=(cB _).mpr SR;have Gh:(S:Rat)*two p+(1/2)*two p=((S:Rat)+1/2)*two p:=by grind
 have WZ:mM t S p*two p<(S:Rat)*two p:=by
  refine(cq _).mpr ?_;unfold mM;split<;>grind
 by_cases uY:S=2^t.m∧az t<p
 ·have SR2:(S:Rat)≤4503599627370496:=by
   have:S≤4503599627370496:=by omega
   exact oU.mpr this
  have Sv2:(S:Rat)*two p≤4503599627370496*two p:=(cB _).mpr SR2;have ok:Within t S p (((n+1:Nat):Rat)*ten E):=by
   refine⟨.inl (by grind),.inl ?_⟩;rw[←Gh,e1];grind
  have QE:(t.round .near (((n+1:Nat):Rat)*ten E)==X)=true:=by rw[dE];exact r2.mpr ok
  simp only[QE,aJ];split<;>exact⟨_,rfl⟩
 ·have VL:mM t S p*two p=(S:Rat)*two p-(1/2)*two p:=by unfold mM;rw[ag uY];grind
  by_cases half:2*((S:Rat)*two p-(n:Rat)*ten E)≤ten E
  ·have ok:Within t S p ((n:Rat)*ten E):=by
    refine⟨.inl ?_,.inl ?_⟩
    ·rw[VL];grind
    ·rw[←Gh];grind
   have QE:(t.round .near ((n:Rat)*ten E)==X)=true:=by rw[dE];exact r1.mpr ok
   simp only[QE,aJ];split<;>exact⟨_,rfl⟩
  ·have ok:Within t S p (((n+1:Nat):Rat)*ten E):=by
    refine⟨.inl (by grind),.inl ?_⟩;rw[←Gh,e1];grind
   have QE:(t.round .near (((n+1:Nat):Rat)*ten E)==X)=true:=by rw[dE];exact r2.mpr ok
   simp only[QE,aJ];split
   ·exact⟨_,rfl⟩
   ·exact⟨_,rfl⟩
end BF
namespace BF
open Lw
theorem QF (t:Fmt) (s:Bool) {X:Nat} (hX:(X:Int)<bE t) (h0:X≠0):∃S p,ta t (pat t s X)=bN s S p∧Norm t S p X:=by
 have oS:=lI hX (dB t);have ⟨h1,h2⟩:=iC (neg:=s) oS;have hM:=aX t.m;have hp:(2:Int)^(t.m+1)=2*2^t.m:=by rw[gy];omega
 unfold ta;dsimp only;rw[h1,h2,if_neg Kf,if_neg Kf];have hd:=Int.mul_ediv_add_emod (X:Int) (2^t.m);have r0:=Int.emod_nonneg (X:Int) (Int.ne_of_gt hM);have r1:=Int.emod_lt_of_pos (X:Int) hM;have f0:0≤(X:Int)/2^t.m:=Int.ediv_nonneg Kf (Int.le_of_lt hM);rw[Int.mul_comm] at hd;split
 ·next k =>
  rw[k] at hd;exact⟨_,_,rfl,Kf,Kf,oE _,Kf,by rw[Int.sub_self];omega,hX⟩
 ·next k =>
  refine⟨_,_,rfl,?_⟩;generalize (X:Int)/2^t.m=f at *;have e:(f-1)*2^t.m=f*2^t.m-2^t.m:=by rw[nH,dc]
  exact⟨Kf,Kf,Kf,Kf,by rw[show az t+f-1-az t=f-1 by omega];omega,hX⟩
theorem K4 {t:Fmt} (h:Ok t) {S p:Int} {X:Nat} (N:Norm t S p X):az t≤log2 ((S:Rat)*two p)∧log2 ((S:Rat)*two p)<t.bias+1:=by
 have ⟨a,b⟩:=oW N.s0;rw[Iq N.s0];have hb1:1≤bl S:=by
  have:two 0≤(S:Rat):=by rw[de];exact oU.mpr (by have:=N.s0;omega:(1:Int)≤S)
  have:=ee.mp (show two 0<two (bl S) by grind);omega
 refine⟨by have:=N.p0;omega,?_⟩;have hX:X=(p-az t).toNat*2^t.m+S.toNat:=by
  have e3:(((p-az t).toNat*2^t.m+S.toNat:Nat):Int)=(p-az t)*2^t.m+S:=by
   rw[cJ,eR,bO,fz (by have:=N.p0;omega),fz (by have:=N.s0;omega)]
  have:=N.x;omega
 have hM:=aX t.m;have NZ:S.toNat≤2^(t.m+1):=by have:=N.s1;have:=bO (t.m+1);omega
 have WX:0<(p-az t).toNat→2^t.m≤S.toNat:=fun z=>by have:=N.s2 Kf;have:=bO t.m;omega
 have ov:=sV t h (c:=S.toNat) (j:=(p-az t).toNat) rfl NZ WX;have hp:az t+((p-az t).toNat:Int)=p:=by have:=N.p0;omega
 have hS:((S.toNat:Nat):Rat)=(S:Rat):=by rw[←bu,fz (by have:=N.s0;omega)]
 rw[hp,hS] at ov;have:¬two (t.bias+1)≤(S:Rat)*two p:=fun z=>by
  have:=ov.mp z;have:=N.xi;rw[hX,cJ,eR,bO] at this;omega
 have h2:two (bl S-1+p)≤(S:Rat)*two p:=by rw[aY];exact(cB _).mpr a
 exact ee.mp (by grind)
theorem wm (t:Fmt) (X:Nat) (q:Rat) {k:Nat} {d:Nat} (hk:k<17) (h1:∀i:Nat,i<k→jq t X q (log10 q-i)=none) (h2:jq t X q (log10 q-k)=some d):shortest t X q=stripped 20 d (log10 q-k):=by
 unfold shortest;have e:∀n:Nat,withDigits t X q (n+1)=(jq t X q (log10 q-n)).map fun d=>(d,log10 q-(n:Int)):=fun n=>by
  rw[BN];have:log10 q-((n+1:Nat):Int)+1=log10 q-n:=by omega
  rw[this]
 have f:(List.range 17).findSome? (fun (n:Nat)=>withDigits t X q (n+1))=some (d,log10 q-(k:Int)):=by
  rw[List.findSome?_eq_some_iff];refine⟨List.range k,k,(List.range (17-k-1)).map (k+1+·),?_,?_,?_⟩
  ·apply j4;intro i;by_cases c1:i<k
   ·rw[uf (by simpa using c1)];rw[oF Kf,oF Kf]
   ·rw[ue (by simpa using c1),rg];by_cases c2:i=k
    ·subst c2;rw[oF Kf];simp
    ·obtain⟨j,hj⟩:∃j,i-k=j+1:=⟨i-k-1,Kf⟩;rw[hj,List.getElem?_cons_succ,aT];by_cases c3:i<17
     ·rw[oF c3,oF Kf];simp;omega
     ·rw[eO (by simp;omega),eO (by simp;omega)];rfl
  ·show withDigits t X q (k+1)=_;rw[e,h2];rfl
  ·intro x hx;show withDigits t X q (x+1)=_;rw[e,h1 x (oM.mp hx)];rfl
 rw[f]
theorem IC {t:Fmt} {X:Nat} {q:Rat} {E:Int} {d:Nat} (hq:ten E≤q) (h:jq t X q E=some d):0<d∧∀n:Nat,q<ten (E+n)→d≤10^n:=by
 have tE:=jB E;have T1:(1:Rat)≤q/ten E:=by
  refine dY.mp fun z=>?_;rw[iM tE] at z;grind
 have ZU:1≤(q/ten E).floor:=zr.mpr T1;have hd:d=(q/ten E).floor.toNat∨d=(q/ten E).floor.toNat+1:=by
  unfold jq at h;dsimp only at h;split at h
  ·split at h
   ·injection h with h
    unfold nearer at h;dsimp only at h;split at h<;>omega
   ·injection h with h;omega
  ·split at h
   ·injection h with h;omega
   ·cases h
 refine⟨Kf,fun n hn=>?_⟩;have:(q/ten E).floor<((10^n:Nat):Int):=by
  refine FO.mpr ?_;rw[iM tE,bu,←BL,←pd,Int.add_comm];exact hn
 omega
theorem strip_stop {f d:Nat} {e:Int} (h0:0<d) (h1:d<10^f) (h:d%10≠0):stripped f d e=(d,e):=by
 cases f with
 | zero=>simp at h1;omega
 | succ f=>unfold stripped;rw[ag h]
theorem strip_go {f d:Nat} {e:Int} (h0:0<d) (h1:d<10^f) (h:d%10=0):∃f',stripped f d e=stripped f' (d/10) (e+1)∧0<d/10∧d/10<10^f':=by
 cases f with
 | zero=>simp at h1;omega
 | succ f =>
  refine⟨f,by rw[stripped,ao h],Kf,?_⟩;rw[gW] at h1;omega
def fY (b:Bytes):Option Int:=match b with
 | []=>some 0
 | c::s=>if c≠101∧c≠69 then none else
  let x:=if s.head?=some 43∨s.head?=some 45 then s.drop 1 else s
  if x=[]∨3<x.length∨x.all isDigit=false then none
  else some (if s.head?=some 45 then -((numberOf x:Nat):Int) else ((numberOf x:Nat):Int))
def gQ (b:Bytes):Option (Nat×Int) :=
 let w:=b.takeWhile isDigit
 match b.drop w.length with
 | 46::s =>
  let f:=s.takeWhile isDigit
  if f=[] then none else if w=[] then none else (fY (s.drop f.length)).map fun e=>(numberOf (w++f),e-f.length)
 | r=>if w=[] then none else (fY r).map fun e=>(numberOf w,e)
theorem BO (p:Bytes) (v:Rat):(match p with
  | []=>some v
  | c::s=>if c≠101∧c≠69 then none else
   let neg:=s.head?==some 45;let x:=if s.head?=some 45∨s.head?=some 43 then s.drop 1 else s
   if x.isEmpty=true∨x.all isDigit=false∨3<x.length then none else some (v*ten (if neg=true then -((numberOf x:Nat):Int) else ((numberOf x:Nat):Int))))=(fY p).map fun e=>v*ten e:=by
 unfold fY;cases p with
 | nil=>simp[jU,cC]
 | cons c s =>
  dsimp only;by_cases h:c≠101∧c≠69
  ·rw[ao h,ao h];rfl
  ·rw[ag h,ag h];have e1:(s.head?=some 45∨s.head?=some 43)↔(s.head?=some 43∨s.head?=some 45):=or_comm;simp only[e1];generalize (if s.head?=some 43∨s.head?=some 45 then s.drop 1 else s)=x;have e2:(x.isEmpty=true∨x.all isDigit=false∨3<x.length)↔(x=[]∨3<x.length∨x.all isDigit=false):=by
    rw[oG,or_comm (a:=x.all isDigit=false)]
   simp only[e2];have e3:(s.head?==some 45)=true↔s.head?=some 45:=dE;by_cases k:x=[]∨3<x.length∨x.all isDigit=false
   ·rw[ao k,ao k];rfl
   ·rw[ag k,ag k];simp only[e3,rj]
def Gi (r:Bytes):Bytes:=match r with
 | 46::s=>s.takeWhile isDigit
 | _=>[]
def K5 (r f:Bytes):Bytes:=match r with
 | 46::s=>if f.isEmpty=true then r else s.drop f.length
 | _=>r
theorem N5 {c:UInt8} {s:Bytes} (h:¬c=46):Gi (c::s)=[]:=by
 unfold Gi;split
 ·next e=>injection e with e1 _;exact absurd e1 h
 ·rfl
theorem N6 {c:UInt8} {s f:Bytes} (h:¬c=46):K5 (c::s) f=c::s:=by
 unfold K5;split
 ·next e=>injection e with e1 _;exact absurd e1 h
 ·rfl
def BP (w f p:Bytes):Option Rat:=if w.isEmpty=true then none else (fY p).map fun e=>((numberOf (w++f):Nat):Rat)*ten (-(f.length:Int))*ten e
theorem tU (b:Bytes):decimalValue b=BP (b.takeWhile isDigit) (Gi (b.drop (b.takeWhile isDigit).length)) (K5 (b.drop (b.takeWhile isDigit).length) (Gi (b.drop (b.takeWhile isDigit).length))):=by
 unfold decimalValue BP;dsimp only;split
 ·rfl
 ·rw[←BO];rfl
theorem yV {b:Bytes} {c:UInt8} {s:Bytes} (e:b.drop (b.takeWhile isDigit).length=c::s) (h:¬c=46) :
  gQ b=if b.takeWhile isDigit=[] then none else (fY (c::s)).map fun e=>(numberOf (b.takeWhile isDigit),e):=by
 unfold gQ;dsimp only;rw[e];split
 ·next e=>injection e with e1 _;exact absurd e1 h
 ·rfl
theorem wo {b:Bytes} (e:b.drop (b.takeWhile isDigit).length=[]) :
  gQ b=if b.takeWhile isDigit=[] then none else some (numberOf (b.takeWhile isDigit),0):=by
 unfold gQ;dsimp only;rw[e];rfl
theorem yW {b:Bytes} {s:Bytes} (e:b.drop (b.takeWhile isDigit).length=46::s) :
  gQ b=if s.takeWhile isDigit=[] then none else if b.takeWhile isDigit=[] then none else (fY (s.drop (s.takeWhile isDigit).length)).map fun (e:Int)=>(numberOf (b.takeWhile isDigit++s.takeWhile isDigit),e-((s.takeWhile isDigit).length:Int)):=by
 unfold gQ;dsimp only;rw[e];rfl
theorem xW (b:Bytes):decimalValue b=(gQ b).map fun p=>(p.1:Rat)*ten p.2:=by
 rw[tU];cases hr:b.drop (b.takeWhile isDigit).length with
 | nil =>
  rw[wo hr];show BP _ [] []=_;unfold BP;by_cases k:b.takeWhile isDigit=[]
  ·rw[ao k,ao (by rw[k];rfl)];rfl
  ·rw[ag k,ag (by rw[oG];exact k),fV];show some (_*ten 0*ten 0)=some (_*ten 0);rw[jU,cC]
 | cons c s =>
  by_cases hc:c=46
  ·subst hc;rw[yW hr];show BP _ (s.takeWhile isDigit) (if (s.takeWhile isDigit).isEmpty=true then 46::s else s.drop (s.takeWhile isDigit).length)=_;unfold BP;by_cases hf:s.takeWhile isDigit=[]
   ·rw[ao hf,hf];show (if _ then none else (fY (46::s)).map _)=none;split
    ·rfl
    ·rfl
   ·rw[ag hf,ag (show ¬(s.takeWhile isDigit).isEmpty=true by rw[oG];exact hf)];by_cases k:b.takeWhile isDigit=[]
    ·rw[ao k,ao (by rw[k];rfl)];rfl
    ·rw[ag k,ag (by rw[oG];exact k)];cases fY (s.drop (s.takeWhile isDigit).length) with
     | none=>rfl
     | some e =>
      simp only[rj];rw[bV,←pd];congr 3;omega
  ·rw[yV hr hc,N5 hc,N6 hc];unfold BP;by_cases k:b.takeWhile isDigit=[]
   ·rw[ao k,ao (by rw[k];rfl)];rfl
   ·rw[ag k,ag (by rw[oG];exact k),fV];cases fY (c::s) with
    | none=>rfl
    | some e =>
     simp only[rj];show some (_*ten 0*_)=_;rw[jU,cC]
end BF
namespace BF
open Lw
theorem same_iff:∀a b:Bytes,same a b=true↔a=b
 | [],[]=>by simp[same]
 | [],_::_=>by simp[same]
 | _::_,[]=>by simp[same]
 | a::r,b::s=>by simp[same,same_iff r s]
def kn (t:Fmt) (m:Mode) (neg:Bool) (n:Nat) (e:Int):Int:=if 0≤e then Bp t m neg ((n:Int)*10^e.toNat) 1 0 else Bp t m neg n (10^(-e).toNat) 0
theorem MB (k:Nat):(0:Int)<10^k:=Ak J9
theorem yX {k:Int} (h:0≤k):ten k=((10^k.toNat:Int):Rat):=by
 rw[mL h,GZ,Rat.intCast_pow];rfl
theorem ID (t:Fmt) (h:Ok t) (m:Mode) (neg:Bool) (n:Nat) (e:Int):(t.put m neg (if neg=true then -((n:Rat)*ten e) else (n:Rat)*ten e):Int)=kn t m neg n e:=by
 unfold kn;show ((t.put m neg (bK neg ((n:Rat)*ten e)):Nat):Int)=_;split
 ·next k =>
  rw[←v7 t h m neg (fE Kf (bo (MB _))) J9];congr 3;rw[de,cC,bh,←yX k,bu];show _=_/(1:Rat);rw[bQ];grind
 ·next k =>
  rw[←v7 t h m neg Kf (MB _)];congr 3;rw[de,cC,←yX (show 0≤-e by omega),bu];have:(ten (-e))⁻¹=ten e:=pP (BM e);rw[bQ,this]
def jm (t:Fmt) (m:Mode) (b:Bytes):Option Int :=
 if b=NAN then some (nR t) else
  let neg:=decide (b.take 1=[45]);let r:=if neg=true then b.drop 1 else b
  if r=INF then some (ws t neg (bE t)) else (gQ r).map fun p=>kn t m neg p.1 p.2
theorem uq (t:Fmt) (h:Ok t) (m:Mode) (b:Bytes):(readFloat t m b).map (fun (x:Nat)=>(x:Int))=jm t m b:=by
 unfold readFloat jm;dsimp only;have e1:(b.head?==some 45)=decide (b.take 1=[45]):=by
  cases b with
  | nil=>rfl
  | cons c s =>
   simp only[List.head?_cons,List.take_succ_cons,DL];by_cases k:c=45
   ·subst k;rfl
   ·simp[k]
 rw[e1];generalize decide (b.take 1=[45])=neg;by_cases k:b=NAN
 ·rw[ao k,ao ((same_iff _ _).mpr k)];show some (t.nan:Int)=_;rw[dM]
 ·rw[ag k,ag fun z=>k ((same_iff _ _).mp z)];generalize (if neg=true then b.drop 1 else b)=r;by_cases k2:r=INF
  ·rw[ao k2,ao ((same_iff _ _).mpr k2)];show some (t.inf neg:Int)=_;rw[lS]
  ·rw[ag k2,ag fun z=>k2 ((same_iff _ _).mp z),xW];cases gQ r with
   | none=>rfl
   | some p =>
    simp only[rj];rw[ID t h]
structure Rel (a:LongSum) (u:Ex):Prop where
 sz:0≤u.size
 nan:u.nan=(a.nan||(a.plus&&a.minus))
 inf:u.nan=false→u.inf=(a.plus||a.minus)
 sgn:u.nan=false→u.inf=true→u.neg=a.minus
 sum:u.nan=false→u.inf=false→bK u.neg ((u.size:Rat)*two u.power)=a.sum
theorem uZ:Rel LongSum.empty (gI 0):=by
 refine⟨J9,rfl,fun _=>rfl,fun _ h=>(nomatch h),fun _ _=>?_⟩;show bK false (((0:Int):Rat)*two 0)=0;rw[dF];exact bF _
theorem bor {x y:Bool} (h:false=(x||y)):x=false∧y=false:=by revert h;cases x<;>cases y<;>decide
theorem Z5 {x y:Bool} (h:true=(x||y)) (hx:x=false):y=true:=by revert h hx;cases x<;>cases y<;>decide
theorem Z6 {x y:Bool} (h:true=(x||y)) (hx:y=false):x=true:=by revert h hx;cases x<;>cases y<;>decide
theorem W4 {x y:Bool} (h:(x&&y)=false) (hx:x=true):y=false:=by revert h hx;cases x<;>cases y<;>decide
theorem W5 {x y:Bool} (h:(x&&y)=false) (hy:y=true):x=false:=by revert h hy;cases x<;>cases y<;>decide
theorem BQ {a:LongSum} {u v:Ex} (r:Rel a u) (hv:0≤v.size):Rel (a.add v.kind) (cG .near u v):=by
 have hsz:=KP (m:=.near) r.sz hv;have rn:=r.nan;have ri:=r.inf;have rs:=r.sgn;have rq:=r.sum;have hu:=r.sz;cases iK:v.nan
 ·cases eM:u.nan
  ·have ri:=ri eM;have rs:=rs eM;have rq:=rq eM;rw[eM] at rn;cases iL:v.inf
   ·cases eT:u.inf
    ·
     have rq:=rq eT;rw[eT] at ri;rw[bH iK iL];have ⟨gG,wt⟩:=bor ri;have Gj:=(bor rn).1;have e1:=oZ (u:=u) (p:=min u.power v.power) Kf;have e2:=oZ (u:=v) (p:=min u.power v.power) Kf;have e3:((cnt u (min u.power v.power)+cnt v (min u.power v.power):Int):Rat)*two (min u.power v.power)=a.sum+bK v.neg ((v.size:Rat)*two v.power):=by
      rw[dH,pL,e1,e2,rq]
     have Z7:∃s S p,cG .near u v=bN s S p∧bK s ((S:Rat)*two p)=a.sum+bK v.neg ((v.size:Rat)*two v.power):=by
      unfold cG;simp only[eM,iK,eT,iL,eS,DG,ib,aO,aM];rw[←e3];generalize min u.power v.power=p;by_cases z:cnt u p+cnt v p=0
      ·refine⟨_,0,p,ao z,?_⟩;rw[z,show (((0:Int):Rat)*two p)=0 from bF _];exact dF.mpr rfl
      ·refine⟨_,_,_,ag z,?_⟩;have:=k9 (p:=p) z;rw[kN] at this;injection this with _ k
     obtain⟨s,S,p,ef,ev⟩:=Z7;rw[ef] at hsz ⊢;refine⟨hsz,?_,fun _=>?_,fun _ h=>?_,fun _ _=>ev⟩
     ·show false=(a.nan||(a.plus&&a.minus));rw[Gj,gG];rfl
     ·show false=(a.plus||a.minus);rw[gG,wt];rfl
     ·cases h
    ·rw[bH iK iL];have ef:cG .near u v=u:=by
      unfold cG;simp[eM,iK,eT,iL]
     rw[ef] at hsz ⊢;refine⟨hsz,by rw[eM];exact rn,fun _=>ri,fun _ _=>rs eT,fun _ h=>?_⟩;rw[eT] at h;cases h
   ·rw[cU iK iL];have ⟨Gj,Gm⟩:=bor rn;cases eT:u.inf
    ·rw[eT] at ri;have ⟨gG,wt⟩:=bor ri;have ef:cG .near u v=v:=by
      unfold cG;simp[eM,iK,eT,iL]
     rw[ef] at hsz ⊢;unfold LongSum.add;cases hs:v.neg
     ·refine⟨hsz,?_,fun _=>?_,fun _ _=>?_,fun _ h=>?_⟩
      ·show v.nan=(a.nan||(true&&a.minus));rw[iK,Gj,wt];rfl
      ·show v.inf=(true||a.minus);rw[iL];rfl
      ·show v.neg=a.minus;rw[hs,wt]
      ·rw[iL] at h;cases h
     ·refine⟨hsz,?_,fun _=>?_,fun _ _=>?_,fun _ h=>?_⟩
      ·show v.nan=(a.nan||(a.plus&&true));rw[iK,Gj,gG];rfl
      ·show v.inf=(a.plus||true);rw[iL];simp
      ·show v.neg=true;exact hs
      ·rw[iL] at h;cases h
    ·have rs:=rs eT;rw[eT] at ri;unfold LongSum.add;cases hs:v.neg
     ·cases DU:u.neg
      ·have ef:cG .near u v=u:=by
        unfold cG;simp[eM,iK,eT,iL,hs,DU]
       rw[ef] at hsz ⊢;have wt:a.minus=false:=by rw[←rs,DU]
       refine⟨hsz,?_,fun _=>?_,fun _ _=>?_,fun _ h=>?_⟩
       ·show u.nan=(a.nan||(true&&a.minus));rw[eM,Gj,wt];rfl
       ·show u.inf=(true||a.minus);rw[eT];rfl
       ·show u.neg=a.minus;exact rs
       ·rw[eT] at h;cases h
      ·have ef:cG .near u v=ki:=by
        unfold cG;simp[eM,iK,eT,iL,hs,DU]
       rw[ef] at hsz ⊢;refine⟨hsz,?_,fun h=>?_,fun h _=>?_,fun h _=>?_⟩
       ·have:a.minus=true:=by rw[←rs,DU]
        simp[this,ki]
       ·cases h
       ·cases h
       ·cases h
     ·cases DU:u.neg
      ·have ef:cG .near u v=ki:=by
        unfold cG;simp[eM,iK,eT,iL,hs,DU]
       rw[ef] at hsz ⊢;refine⟨hsz,?_,fun h=>?_,fun h _=>?_,fun h _=>?_⟩
       ·have h1:a.minus=false:=by rw[←rs,DU]
        have h2:a.plus=true:=Z6 ri h1;simp[h2,ki]
       ·cases h
       ·cases h
       ·cases h
      ·have ef:cG .near u v=u:=by
        unfold cG;simp[eM,iK,eT,iL,hs,DU]
       rw[ef] at hsz ⊢;have wt:a.minus=true:=by rw[←rs,DU]
       have gG:a.plus=false:=W5 Gm wt;refine⟨hsz,?_,fun _=>?_,fun _ _=>?_,fun _ h=>?_⟩
       ·show u.nan=(a.nan||(a.plus&&true));rw[eM,Gj,gG];rfl
       ·show u.inf=(a.plus||true);rw[eT];simp
       ·show u.neg=true;exact DU
       ·rw[eT] at h;cases h
  ·
   have ef:cG .near u v=ki:=by
    unfold cG;simp[eM]
   rw[ef];rw[eM] at rn;refine⟨J9,?_,fun h=>(nomatch h),fun h _=>(nomatch h),fun h _=>(nomatch h)⟩;cases hk:v.kind with
   | nan=>simp[LongSum.add,ki]
   | inf s =>
    unfold LongSum.add;cases s
    ·show true=_;simp only[aO,aM];clear rs ri rq hsz hk;revert rn;cases a.nan<;>cases a.plus<;>cases a.minus<;>decide
    ·show true=_;simp only[aJ];clear rs ri rq hsz hk;revert rn;cases a.nan<;>cases a.plus<;>cases a.minus<;>decide
   | num s q=>show true=_;exact rn
 ·have ef:cG .near u v=ki:=by
   unfold cG;simp[iK]
  rw[ef,fI iK];exact⟨J9,by simp[LongSum.add,ki],fun h=>(nomatch h),fun h _=>(nomatch h),fun h _=>(nomatch h)⟩
theorem IE (t:Fmt) (m:Mode) {a:LongSum} {u:Ex} (r:Rel a u):a.get t m=if bC u=true then t.zero m.isDown else t.ofKind m u.kind:=by
 unfold LongSum.get bC;have rn:=r.nan;cases eM:u.nan
 ·have ri:=r.inf eM;have rs:=r.sgn eM;have rq:=r.sum eM;rw[eM] at rn;have ⟨Gj,Gm⟩:=bor rn;cases eT:u.inf
  ·rw[eT] at ri;have ⟨gG,wt⟩:=bor ri;have rq:=rq eT;rw[bH eM eT,rq];simp only[Gj,gG,wt,aO,false_and,or_self,aM,fR,fJ,bj];by_cases k:u.size=0
   ·rw[ao k];have:a.sum=0:=by rw[←rq,dF,k];exact bF _
    unfold Fmt.put;rw[ao this]
   ·rw[ag k];refine kX t m _ _ ?_;rw[←rq];exact fun z=>k (val_zero.mp z)
  ·have rs:=rs eT;rw[eT] at ri;rw[cU eM eT,rs];simp only[Gj,aO,false_or,fR,vy,ib,uA,aM];cases gG:a.plus
   ·have wt:a.minus=true:=Z5 ri gG;simp[wt,Fmt.ofKind]
   ·have wt:a.minus=false:=W4 Gm gG;simp[wt,Fmt.ofKind]
 ·rw[eM] at rn;rw[fI eM];have:a.nan=true∨(a.plus=true∧a.minus=true):=by
   clear r;revert rn;cases a.nan<;>cases a.plus<;>cases a.minus<;>decide
  rw[ao this];rfl
theorem Fd {α β:Type} {f g:α→Option β}:∀(l:List α),(∀k∈l,f k=g k)→l.filterMap f=l.filterMap g
 | [],_=>rfl
 | a::l,h=>by
  rw[oN,oN,h a (by simp),Fd l fun k hk=>h k (by simp[hk])]
theorem IF {α:Type} (n i:Nat) (l:List α) (x:α):every n i (l++[x])=if l.length%n=i then every n i l++[x] else every n i l:=by
 unfold every;rw[cT,show [x].length=1 from rfl,List.range_succ,List.filterMap_append];have e1:(List.range l.length).filterMap (fun (k:Nat)=>if k%n=i then (l++[x])[k]? else none)=(List.range l.length).filterMap (fun (k:Nat)=>if k%n=i then l[k]? else none):=by
  refine Fd _ fun k hk=>?_;rw[uf (oM.mp hk)]
 rw[e1];have e2:(l++[x])[l.length]?=some x:=by rw[ue (bB _)];simp
 by_cases k:l.length%n=i
 ·rw[ao k];congr 1;simp[k]
 ·rw[ag k];simp[k]
end BF
namespace BF
open Lw
def fm (k:Int):Fmt:=if k=0 then HALF else if k=1 then BRAIN else if k=2 then SINGLE else D
def md (m:Int):Mode:=if m=0 then .near else if m=1 then .down else if m=2 then .up else if m=3 then .zero else .away
theorem ur {k:Int} (h:0≤k) (h2:k≤3):k=0∨k=1∨k=2∨k=3:=by omega
theorem wu {k:Int} (h:0≤k) (h2:k≤4):k=0∨k=1∨k=2∨k=3∨k=4:=by omega
theorem BR {k:Int} (h:0≤k):floatKind k.toNat=if k≤3 then some (fm k) else none:=by
 by_cases c:k≤3
 ·rw[ao c];rcases ur h c with rfl | rfl | rfl | rfl<;>rfl
 ·rw[ag c];obtain⟨n,rfl⟩:=aA h;obtain⟨j,rfl⟩:∃j,n=j+4:=⟨n-4,Kf⟩;rfl
theorem QG {m:Int} (h:0≤m):modeOf m.toNat=if m≤4 then some (md m) else none:=by
 by_cases c:m≤4
 ·rw[ao c];rcases wu h c with rfl | rfl | rfl | rfl | rfl<;>rfl
 ·rw[ag c];obtain⟨n,rfl⟩:=aA h;obtain⟨j,rfl⟩:∃j,n=j+5:=⟨n-5,Kf⟩;rfl
theorem xX (k:Int):fm k=HALF∨fm k=BRAIN∨fm k=SINGLE∨fm k=D:=by
 unfold fm;split
 ·exact .inl rfl
 ·split
  ·exact .inr (.inl rfl)
  ·split
   ·exact .inr (.inr (.inl rfl))
   ·exact .inr (.inr (.inr rfl))
theorem dk (k:Int):Ok (fm k):=by
 rcases xX k with h | h | h | h<;>rw[h]
 ·exact okH
 ·exact Wo
 ·exact okS
 ·exact cH
theorem gL (k:Int):(fm k).m≤52∧(fm k).e≤11∧aU (fm k)≤2^63∧-1074≤az (fm k)∧az (fm k)≤-24∧(fm k).bias≤1023∧7≤(fm k).m:=by
 rcases xX k with h | h | h | h<;>rw[h]<;>decide
def nb (t:Fmt):Int:=(1+t.e+t.m)/8
theorem ml (t:Fmt):((NumCalls.Fmt.bytes t:Nat):Int)=nb t:=by
 unfold NumCalls.Fmt.bytes Fmt.bits nb;omega
theorem gz (k:Int):8*nb (fm k)=1+(fm k).e+(fm k).m∧2≤nb (fm k)∧nb (fm k)≤8:=by
 rcases xX k with h | h | h | h<;>rw[h]<;>decide
def cS (l:List Int):Prop:=∀x∈l,0≤x∧x≤255
theorem cS.cons {x:Int} {l:List Int} (h:cS (x::l)):(0≤x∧x≤255)∧cS l:=⟨h x (by simp),fun y hy=>h y (by simp[hy])⟩
def cj:List Int→Int
 | []=>0
 | c::r=>c+256*cj r
theorem yY {x:Int} (h0:0≤x) (h1:x≤255):((UInt8.ofNat x.toNat).toNat:Int)=x:=by
 rw[DM];omega
theorem wx:∀{l:List Int},cS l→(NumNeutral.bytes l).map (fun (c:UInt8)=>(c.toNat:Int))=l
 | [],_=>rfl
 | x::l,h=>by
  have ⟨a,b⟩:=h.cons;show ((UInt8.ofNat x.toNat).toNat:Int)::(NumNeutral.bytes l).map _=_;rw[wx b,yY a.1 a.2]
theorem yZ:∀{l:List Int},cS l→(((NumNeutral.bytes l).foldr (fun (c:UInt8) (n:Nat)=>c.toNat+256*n) 0:Nat):Int)=cj l
 | [],_=>rfl
 | x::l,h=>by
  have ⟨a,b⟩:=h.cons;have ih:=yZ b;show (((UInt8.ofNat x.toNat).toNat+256*(NumNeutral.bytes l).foldr (fun (c:UInt8) (n:Nat)=>c.toNat+256*n) 0:Nat):Int)=x+256*cj l;have:=yY a.1 a.2;omega
theorem iE (l:List Int):(NumNeutral.bytes l).length=l.length:=by unfold NumNeutral.bytes;exact aF _
theorem gR:∀{l:List Int},cS l→0≤cj l∧cj l<2^(8*l.length)
 | [],_=>by decide
 | x::l,h=>by
  have ⟨a,b⟩:=h.cons;have ⟨c,d⟩:=gR b;unfold cj;rw[show 8*(x::l).length=8*l.length+8 by simp;omega,ji,show (2:Int)^8=256 from rfl];omega
theorem rM (l:List Int) (x:Int):cj (l++[x])=cj l+x*2^(8*l.length):=by
 induction l with
 | nil=>simp[cj]
 | cons c r ih =>
  show c+256*cj (r++[x])=c+256*cj r+_;rw[ih,show 8*(c::r).length=8*r.length+8 by simp;omega,ji,show (2:Int)^8=256 from rfl];grind
theorem kP (t:Fmt) {l:List Int} (h:cS l):NumCalls.bitsOf t (NumNeutral.bytes l)=if (l.length:Int)=nb t then some (cj l).toNat else none:=by
 unfold NumCalls.bitsOf;have hb:=ml t;have e:=yZ h;rw[iE];by_cases c:(l.length:Int)=nb t
 ·rw[ao c,ao Kf];congr 1;omega
 ·rw[ag c,ag Kf]
theorem ph (k:Int) {l:List Int} (h:cS l) (hl:(l.length:Int)=nb (fm k)):(cj l).toNat<2*(fm k).sign:=by
 have ⟨a,b⟩:=gR h;have ⟨c,_⟩:=gz k;have e:8*l.length=((fm k).e+(fm k).m)+1:=by omega
 rw[e,gy] at b;have:=dX (fm k);unfold aU at this;omega
def uu (t:Fmt) (x:Int):List Int:=(List.range (nb t).toNat).map fun i=>x/2^(8*i)%256
theorem Gn (t:Fmt) (x:Nat):(NumCalls.toBytes t x).map (fun (c:UInt8)=>(c.toNat:Int))=uu t x:=by
 unfold NumCalls.toBytes uu;have hb:=ml t;rw[show (nb t).toNat=NumCalls.Fmt.bytes t by omega,js];refine xE fun i _=>?_;show (((UInt8.ofNat (x/256^i%256)).toNat:Nat):Int)=_;rw[DM];have:(2:Nat)^(8*i)=256^i:=by rw[DN]
 have e:(x:Int)/2^(8*i)%256=((x/2^(8*i)%256:Nat):Int):=by rw[←bO];rfl
 rw[e,this];have:=fG (x/256^i) (show 256>0 by decide);omega
def hZ (t:Fmt) (x:Nat):List Int:=0::nb t::uu t x
theorem Go (t:Fmt) (x:Nat):((NumCalls.toBytes t x).length:Int)=nb t:=by
 unfold NumCalls.toBytes;rw[aF,rg];exact ml t
theorem IG (t:Fmt) (x:Nat):(NumCalls.number t x).code::(NumCalls.number t x).told.flatMap NumNeutral.toldInts=hZ t x:=by
 show (0:Int)::(NumNeutral.toldInts (.t (NumCalls.toBytes t x))++[])=_;rw[fV];show (0:Int)::((NumCalls.toBytes t x).length:Int)::(NumCalls.toBytes t x).map (fun (c:UInt8)=>(c.toNat:Int))=_;rw[Gn,Go];rfl
def lK (a:NumCalls.Answer):List Int:=a.code::a.told.flatMap NumNeutral.toldInts
theorem ja (t:Fmt) (x:Nat):lK (NumCalls.number t x)=hZ t x:=IG t x
theorem lG {k m:Int} (hk:0≤k) (hm:0≤m) (f:Fmt→Mode→NumCalls.Answer):NumCalls.by_ k.toNat m.toNat f=if k≤3∧m≤4 then f (fm k) (md m) else NumCalls.BAD:=by
 unfold NumCalls.by_;rw[BR hk,QG hm];by_cases c:k≤3
 ·by_cases d:m≤4
  ·rw[ao c,ao d,ao ⟨c,d⟩]
  ·rw[ao c,ag d,ag fun z=>d z.2]
 ·rw[ag c,ag (show ¬(k≤3∧m≤4) from fun z=>c z.1)]
theorem sZ (t:Fmt) {a:List Int} (ha:cS a) (f:Nat→NumCalls.Answer):NumCalls.of1 t (NumNeutral.bytes a) f=if (a.length:Int)=nb t then f (cj a).toNat else NumCalls.BAD:=by
 unfold NumCalls.of1;rw[kP t ha];split<;>rename_i h<;>split at h<;>simp_all
theorem As (t:Fmt) {a b:List Int} (ha:cS a) (hb:cS b) (f:Nat→Nat→NumCalls.Answer) :
  NumCalls.of2 t (NumNeutral.bytes a) (NumNeutral.bytes b) f=if (a.length:Int)=nb t∧(b.length:Int)=nb t then f (cj a).toNat (cj b).toNat else NumCalls.BAD:=by
 unfold NumCalls.of2;rw[kP t ha,kP t hb];by_cases c:(a.length:Int)=nb t
 ·by_cases d:(b.length:Int)=nb t
  ·rw[ao c,ao d,ao ⟨c,d⟩]
  ·rw[ao c,ag d,ag fun z=>d z.2]
 ·rw[ag c,ag (show ¬((a.length:Int)=nb t∧(b.length:Int)=nb t) from fun z=>c z.1)]
def T2 (t:Fmt) (m:Mode) (n:Int) (x y:Nat):Nat:=(NumCalls.opOf t m n.toNat x y).getD 0
theorem QH (t:Fmt) (m:Mode) {n:Int} (h:0≤n) (x y:Nat):NumCalls.told t (NumCalls.opOf t m n.toNat x y)=if n≤10 then NumCalls.number t (T2 t m n x y) else NumCalls.BAD:=by
 obtain⟨j,rfl⟩:=aA h;unfold T2;rw[aN]
 match j with
 | 0=>rfl
 | 1=>rfl
 | 2=>rfl
 | 3=>rfl
 | 4=>rfl
 | 5=>rfl
 | 6=>rfl
 | 7=>rfl
 | 8=>rfl
 | 9=>rfl
 | 10=>rfl
 | j+11=>rw[ag Kf];rfl
abbrev St:=NumCalls.State
theorem Gp (s:St) {k n m:Int} (hk:0≤k) (hn:0≤n) (hm:0≤m) {a b:List Int} (ha:cS a) (hb:cS b):NumNeutral.step s [[0,k,n,m],a,b] =
  (s,if (k≤3∧(a.length:Int)=nb (fm k)∧(b.length:Int)=nb (fm k))∧n≤10∧m≤4 then hZ (fm k) (T2 (fm k) (md m) n (cj a).toNat (cj b).toNat) else [-1]):=by
 show (s,lK (NumCalls.answer s (.op k.toNat n.toNat m.toNat (NumNeutral.bytes a) (NumNeutral.bytes b))))=_;congr 1;show lK (NumCalls.by_ k.toNat m.toNat _)=_;rw[lG hk hm];by_cases c1:k≤3
 ·by_cases c2:m≤4
  ·rw[ao ⟨c1,c2⟩,As _ ha hb];by_cases c3:(a.length:Int)=nb (fm k)∧(b.length:Int)=nb (fm k)
   ·rw[ao c3,QH _ _ hn];by_cases c4:n≤10
    ·rw[ao c4,ao ⟨⟨c1,c3⟩,c4,c2⟩,ja]
    ·rw[ag c4,ag fun z=>c4 z.2.1];rfl
   ·rw[ag c3,ag fun z=>c3 z.1.2];rfl
  ·rw[ag fun z=>c2 z.2,ag fun z=>c2 z.2.2];rfl
 ·rw[ag fun z=>c1 z.1,ag fun z=>c1 z.1.1];rfl
theorem Au (s:St) {k m:Int} (hk:0≤k) (hm:0≤m) {a b c:List Int} (ha:cS a) (hb:cS b) (hc:cS c):NumNeutral.step s [[1,k,m],a,b,c] =
  (s,if (k≤3∧(a.length:Int)=nb (fm k)∧(b.length:Int)=nb (fm k)∧(c.length:Int)=nb (fm k))∧m≤4 then hZ (fm k) ((fm k).fma (md m) (cj a).toNat (cj b).toNat (cj c).toNat) else [-1]):=by
 show (s,lK (NumCalls.by_ k.toNat m.toNat _))=_;rw[lG hk hm];by_cases c1:k≤3
 ·by_cases c2:m≤4
  ·rw[ao ⟨c1,c2⟩,As _ ha hb];by_cases c3:(a.length:Int)=nb (fm k)∧(b.length:Int)=nb (fm k)
   ·rw[ao c3,sZ _ hc];by_cases c4:(c.length:Int)=nb (fm k)
    ·rw[ao c4,ao ⟨⟨c1,c3.1,c3.2,c4⟩,c2⟩,ja]
    ·rw[ag c4,ag fun z=>c4 z.1.2.2.2];rfl
   ·rw[ag c3,ag fun z=>c3 ⟨z.1.2.1,z.1.2.2.1⟩];rfl
  ·rw[ag fun z=>c2 z.2,ag fun z=>c2 z.2];rfl
 ·rw[ag fun z=>c1 z.1,ag fun z=>c1 z.1.1];rfl
theorem tf (s:St) {k m e:Int} (hk:0≤k) (hm:0≤m) {a:List Int} (ha:cS a):NumNeutral.step s [[2,k,m,e],a] =
  (s,if (k≤3∧(a.length:Int)=nb (fm k))∧m≤4∧(e.natAbs:Int)≤5000 then hZ (fm k) ((fm k).scale (md m) (cj a).toNat e) else [-1]):=by
 show (s,lK (NumCalls.by_ k.toNat m.toNat _))=_;rw[lG hk hm];by_cases c1:k≤3
 ·by_cases c2:m≤4
  ·rw[ao ⟨c1,c2⟩,sZ _ ha];by_cases c3:(a.length:Int)=nb (fm k)
   ·rw[ao c3];by_cases c4:(e.natAbs:Int)≤5000
    ·rw[ao Kf,ao ⟨⟨c1,c3⟩,c2,c4⟩,ja]
    ·rw[ag Kf,ag fun z=>c4 z.2.2];rfl
   ·rw[ag c3,ag fun z=>c3 z.1.2];rfl
  ·rw[ag fun z=>c2 z.2,ag fun z=>c2 z.2.1];rfl
 ·rw[ag fun z=>c1 z.1,ag fun z=>c1 z.1.1];rfl
theorem wy (s:St) {f g m:Int} (hf:0≤f) (hg:0≤g) (hm:0≤m) {a:List Int} (ha:cS a):NumNeutral.step s [[3,f,g,m],a] =
  (s,if (f≤3∧(a.length:Int)=nb (fm f))∧g≤3∧m≤4 then hZ (fm g) ((fm f).to (fm g) (md m) (cj a).toNat) else [-1]):=by
 show (s,lK (NumCalls.by_ f.toNat m.toNat _))=_;rw[lG hf hm];by_cases c1:f≤3
 ·by_cases c2:m≤4
  ·rw[ao ⟨c1,c2⟩,BR hg];by_cases c4:g≤3
   ·rw[if_pos c4];dsimp only;rw[sZ _ ha];by_cases c3:(a.length:Int)=nb (fm f)
    ·rw[ao c3,ao ⟨⟨c1,c3⟩,c4,c2⟩,ja]
    ·rw[ag c3,ag fun z=>c3 z.1.2];rfl
   ·rw[ag c4,ag fun z=>c4 z.2.1];rfl
  ·rw[ag fun z=>c2 z.2,ag fun z=>c2 z.2.2];rfl
 ·rw[ag fun z=>c1 z.1,ag fun z=>c1 z.1.1];rfl
def IH (t:Fmt) (m:Mode) (f:Int) (x y:Nat):Nat:=if f=5 then NumCalls.powerOf t m x y else (t.fn m f.toNat x).getD 0
theorem QI (t:Fmt) (m:Mode) {n:Int} (h:0≤n) (h5:n≠5) (x y:Nat):NumCalls.told t (t.fn m n.toNat x)=if n≤5 then NumCalls.number t (IH t m n x y) else NumCalls.BAD:=by
 obtain⟨j,rfl⟩:=aA h;unfold IH;rw[aN,ag h5]
 match j with
 | 0=>rfl
 | 1=>rfl
 | 2=>rfl
 | 3=>rfl
 | 4=>rfl
 | 5=>exact absurd rfl h5
 | j+6=>rw[ag Kf];rfl
theorem Gq (s:St) {k f m:Int} (hk:0≤k) (hf:0≤f) (hm:0≤m) {a b:List Int} (ha:cS a) (hb:cS b):NumNeutral.step s [[4,k,f,m],a,b] =
  (s,if (k≤3∧(a.length:Int)=nb (fm k)∧(f=5→(b.length:Int)=nb (fm k)))∧f≤5∧m≤4 then hZ (fm k) (IH (fm k) (md m) f (cj a).toNat (cj b).toNat) else [-1]):=by
 show (s,lK (NumCalls.by_ k.toNat m.toNat _))=_;rw[lG hk hm];by_cases c1:k≤3
 ·by_cases c2:m≤4
  ·rw[ao ⟨c1,c2⟩];by_cases c5:f=5
   ·rw[ao Kf,As _ ha hb];by_cases c3:(a.length:Int)=nb (fm k)∧(b.length:Int)=nb (fm k)
    ·rw[ao c3,ao ⟨⟨c1,c3.1,fun _=>c3.2⟩,Kf,c2⟩,ja];unfold IH;rw[ao c5]
    ·rw[ag c3,ag fun z=>c3 ⟨z.1.2.1,z.1.2.2 c5⟩];rfl
   ·rw[ag Kf,sZ _ ha];by_cases c3:(a.length:Int)=nb (fm k)
    ·rw[ao c3,QI _ _ hf c5 _ (cj b).toNat];by_cases c4:f≤5
     ·rw[ao c4,ao ⟨⟨c1,c3,fun z=>absurd z c5⟩,c4,c2⟩,ja]
     ·rw[ag c4,ag fun z=>c4 z.2.1];rfl
    ·rw[ag c3,ag fun z=>c3 z.1.2.1];rfl
  ·rw[ag fun z=>c2 z.2,ag fun z=>c2 z.2.2];rfl
 ·rw[ag fun z=>c1 z.1,ag fun z=>c1 z.1.1];rfl
theorem MC {k:Int} (hk:0≤k) (f:Fmt→Mode→NumCalls.Answer):NumCalls.by_ k.toNat 0 f=if k≤3 then f (fm k) .near else NumCalls.BAD:=by
 have:=lG hk (show (0:Int)≤0 by decide) f;rw[show (0:Int).toNat=0 from rfl] at this;rw[this];by_cases c:k≤3
 ·rw[ao c,ao ⟨c,J9⟩];rfl
 ·rw[ag c,ag fun z=>c z.1]
theorem Av (s:St) {k h:Int} (hk:0≤k) (hh:0≤h) {a b:List Int} (ha:cS a) (hb:cS b):NumNeutral.step s [[5,k,h],a,b] =
  (s,if (k≤3∧(a.length:Int)=nb (fm k)∧(b.length:Int)=nb (fm k))∧h≤1 then [0,E7 (fm k) h.toNat (cj a) (cj b)] else [-1]):=by
 show (s,lK (NumCalls.by_ k.toNat 0 _))=_;rw[MC hk];by_cases c1:k≤3
 ·rw[ao c1,As _ ha hb];by_cases c3:(a.length:Int)=nb (fm k)∧(b.length:Int)=nb (fm k)
  ·rw[ao c3];by_cases c4:h≤1
   ·rw[TC (fm k) (dk k) Kf (ph k ha c3.1) (ph k hb c3.2),ao ⟨⟨c1,c3⟩,c4⟩];rw[fz (gR ha).1,fz (gR hb).1];rfl
   ·rw[ag fun z=>c4 z.2];obtain⟨n,rfl⟩:=aA hh;obtain⟨j,rfl⟩:∃j,n=j+2:=⟨n-2,Kf⟩;rfl
  ·rw[ag c3,ag fun z=>c3 z.1.2];rfl
 ·rw[ag c1,ag fun z=>c1 z.1.1];rfl
def xY (b:Bytes):List Int:=b.map fun (c:UInt8)=>(c.toNat:Int)
theorem wz (s:St) {k:Int} (hk:0≤k) {a:List Int} (ha:cS a):NumNeutral.step s [[6,k],a] =
  (s,if k≤3∧(a.length:Int)=nb (fm k) then 0::((xY ((fm k).text (cj a).toNat)).length:Int)::xY ((fm k).text (cj a).toNat) else [-1]):=by
 show (s,lK (NumCalls.by_ k.toNat 0 _))=_;rw[MC hk];by_cases c1:k≤3
 ·rw[ao c1,sZ _ ha];by_cases c3:(a.length:Int)=nb (fm k)
  ·rw[ao c3,ao ⟨c1,c3⟩];unfold xY;rw[aF];show (s,(0:Int)::(NumNeutral.toldInts (.t ((fm k).text (cj a).toNat))++[]))=_;rw[fV];rfl
  ·rw[ag c3,ag fun z=>c3 z.2];rfl
 ·rw[ag c1,ag fun z=>c1 z.1];rfl
theorem rN (s:St) {k m:Int} (hk:0≤k) (hm:0≤m) (t:List Int):NumNeutral.step s [[7,k,m],t] =
  (s,if k≤3∧m≤4∧(t.length:Int)≤60 then (match jm (fm k) (md m) (NumNeutral.bytes t) with
   | some x=>hZ (fm k) x.toNat
   | none=>[-2]) else [-1]):=by
 show (s,lK (NumCalls.by_ k.toNat m.toNat _))=_;rw[lG hk hm];by_cases c1:k≤3
 ·by_cases c2:m≤4
  ·rw[ao ⟨c1,c2⟩,iE];by_cases c3:(t.length:Int)≤60
   ·rw[ag (show ¬NumCalls.LONG<t.length by unfold NumCalls.LONG;omega),ao ⟨c1,c2,c3⟩,←uq (fm k) (dk k)];cases readFloat (fm k) (md m) (NumNeutral.bytes t) with
    | none=>rfl
    | some x =>
     simp only[rj,aN];rw[ja]
   ·rw[ao (show NumCalls.LONG<t.length by unfold NumCalls.LONG;omega),ag fun z=>c3 z.2.2];rfl
  ·rw[ag fun z=>c2 z.2,ag fun z=>c2 z.2.1];rfl
 ·rw[ag fun z=>c1 z.1,ag fun z=>c1 z.1];rfl
theorem Gr (s:St) {k:Int} (hk:0≤k) {a b:List Int} (ha:cS a) (hb:cS b):NumNeutral.step s [[9,k],a,b] =
  if k≤3∧(a.length:Int)=nb (fm k)∧(b≠[]→(b.length:Int)=nb (fm k)) then
   (s.add (if b=[] then (fm k).kind (cj a).toNat else timesKinds ((fm k).kind (cj a).toNat) ((fm k).kind (cj b).toNat)),[0]) else (s,[-1]):=by
 show ((NumCalls.step s (.add k.toNat (NumNeutral.bytes a) (NumNeutral.bytes b))).1,lK (NumCalls.step s (.add k.toNat (NumNeutral.bytes a) (NumNeutral.bytes b))).2)=_;unfold NumCalls.step;dsimp only;rw[BR hk];by_cases c1:k≤3
 ·rw[if_pos c1];dsimp only;rw[kP _ ha];by_cases c2:(a.length:Int)=nb (fm k)
  ·rw[if_pos c2];dsimp only;by_cases c3:b=[]
   ·subst c3;rw[ao (show (NumNeutral.bytes []).isEmpty=true from rfl),ao ⟨c1,c2,fun z=>absurd rfl z⟩];rfl
   ·have iW:¬(NumNeutral.bytes b).isEmpty=true:=by
     rw[oG];intro z;have:=a7 List.length z;rw[iE] at this;exact c3 (HD.mp this)
    rw[ag iW,kP _ hb];by_cases c4:(b.length:Int)=nb (fm k)
    ·rw[ao c4,ao ⟨c1,c2,fun _=>c4⟩,ag c3];rfl
    ·rw[ag c4,ag fun z=>c4 (z.2.2 c3)];rfl
  ·rw[ag c2,ag fun z=>c2 z.2.1];rfl
 ·rw[ag c1,ag fun z=>c1 z.1];rfl
theorem Aw (s:St) {k m:Int} (hk:0≤k) (hm:0≤m):NumNeutral.step s [[10,k,m]]=(s,if k≤3∧m≤4 then hZ (fm k) (s.get (fm k) (md m)) else [-1]):=by
 show (s,lK (NumCalls.by_ k.toNat m.toNat _))=_;rw[lG hk hm];by_cases c:k≤3∧m≤4
 ·rw[ao c,ao c,ja]
 ·rw[ag c,ag c];rfl
theorem tj (s:St) {k m b g:Int} (hk:0≤k) (hm:0≤m) (hb:0≤b) (hg:0≤g) {a:List Int} (ha:cS a):NumNeutral.step s [[13,k,m,b,g],a] =
  (s,if (k≤3∧(a.length:Int)=nb (fm k))∧m≤4∧1≤b∧b≤48∧g≤1 then [0,(fm k).toInt (md m) b.toNat (decide (g=1)) (cj a).toNat] else [-1]):=by
 show (s,lK (NumCalls.by_ k.toNat m.toNat _))=_;rw[lG hk hm];by_cases c1:k≤3
 ·by_cases c2:m≤4
  ·rw[ao ⟨c1,c2⟩];by_cases c3:1≤b∧b≤48∧g≤1
   ·rw[ag (show ¬(b.toNat<1∨48<b.toNat∨1<g.toNat) by omega),sZ _ ha];by_cases c4:(a.length:Int)=nb (fm k)
    ·rw[ao c4,ao ⟨⟨c1,c4⟩,c2,c3⟩];have:(g.toNat==1)=decide (g=1):=by
      by_cases z:g=1
      ·subst z;rfl
      ·rw[bS z];exact tQ.mpr Kf
     rw[this];rfl
    ·rw[ag c4,ag fun z=>c4 z.1.2];rfl
   ·rw[ao (show (b.toNat<1∨48<b.toNat∨1<g.toNat) by omega),ag fun z=>c3 z.2.2];rfl
  ·rw[ag fun z=>c2 z.2,ag fun z=>c2 z.2.1];rfl
 ·rw[ag fun z=>c1 z.1,ag fun z=>c1 z.1.1];rfl
theorem tq (s:St) {k m:Int} (z:Int) (hk:0≤k) (hm:0≤m):NumNeutral.step s [[14,k,m,z]]=(s,if k≤3∧m≤4 then hZ (fm k) ((fm k).ofInt (md m) z) else [-1]):=by
 show (s,lK (NumCalls.by_ k.toNat m.toNat _))=_;rw[lG hk hm];by_cases c:k≤3∧m≤4
 ·rw[ao c,ao c,ja]
 ·rw[ag c,ag c];rfl
end BF
namespace BF
open Lw
def gw (n:Nat) (l:List Int):List Int:=(List.range (l.length/n)).map fun i=>cj ((l.drop (i*n)).take n)
theorem cS.take {l:List Int} (h:cS l) (n:Nat):cS (l.take n):=fun x hx=>h x (HR hx)
theorem cS.drop {l:List Int} (h:cS l) (n:Nat):cS (l.drop n):=fun x hx=>h x (List.mem_of_mem_drop hx)
theorem II (l:List Int) (n:Nat):(NumNeutral.bytes l).take n=NumNeutral.bytes (l.take n):=by unfold NumNeutral.bytes;exact oH.symm
theorem IJ (l:List Int) (n:Nat):(NumNeutral.bytes l).drop n=NumNeutral.bytes (l.drop n):=by unfold NumNeutral.bytes;exact oK.symm
theorem IK {n:Nat} (hn:0<n) {l:List Int} (h:n≤l.length):gw n l=cj (l.take n)::gw n (l.drop n):=by
 unfold gw;have e:l.length/n=(l.drop n).length/n+1:=by
  rw[et];obtain⟨j,hj⟩:∃j,l.length=j+n:=⟨l.length-n,Kf⟩;rw[hj,lz,Hj _ hn]
 rw[e,Fm,fT,js];rw[Nat.zero_mul,xF];congr 1;refine xE fun i _=>?_;show cj ((l.drop ((i+1)*n)).take n)=_;rw[me,show (i+1)*n=n+i*n by rw[vY];omega]
theorem nW (t:Fmt) {n:Nat} (hn:0<n) (hb:NumCalls.Fmt.bytes t=n):∀(f:Nat) (l:List Int),cS l→l.length≤f →
  NumCalls.allBits t f (NumNeutral.bytes l)=if l.length%n=0 then some ((gw n l).map Int.toNat) else none
 | 0,l,_,hl=>by
  have:l=[]:=HD.mp Kf;subst this;simp[NumCalls.allBits,NumNeutral.bytes,gw]
 | f+1,l,h,hl=>by
  unfold NumCalls.allBits;by_cases c:l=[]
  ·subst c;simp[NumNeutral.bytes,gw]
  ·have iW:¬(NumNeutral.bytes l).isEmpty=true:=by
    rw[oG];intro z;have:=a7 List.length z;rw[iE] at this;exact c (HD.mp this)
   have hlen:0<l.length:=List.length_pos_iff.mpr c;have Z8:=ml t;rw[ag iW,hb,II,IJ,kP t (h.take n),fM];by_cases d:n≤l.length
   ·rw[ao Kf,nW t hn hb f (l.drop n) (h.drop n) (by rw[et];omega),et];have e:(l.length-n)%n=l.length%n:=by
     obtain⟨j,hj⟩:∃j,l.length=j+n:=⟨l.length-n,Kf⟩;rw[hj,lz,Hk]
    rw[e];by_cases g:l.length%n=0
    ·rw[ao g,ao g,IK hn d];rfl
    ·rw[ag g,ag g];rfl
   ·rw[ag Kf,ag (by rw[qW Kf];omega)];rfl
theorem chunk_len (n:Nat) (l:List Int):(gw n l).length=l.length/n:=by unfold gw;rw[aF,rg]
def fZ {α:Type} (g:Nat→α→Nat) (n:Nat) (l:List α):List Nat:=(List.range n).map fun i=>(every n i l).foldl g 0
theorem iU {α:Type} (g:Nat→α→Nat) (n:Nat) (l:List α):(fZ g n l).length=n:=by unfold fZ;simp
theorem Fe {α:Type} (g:Nat→α→Nat) (n:Nat):fZ g n ([]:List α)=List.replicate n 0:=by
 unfold fZ every;apply j4;intro i;by_cases c:i<n
 ·rw[aT,oF c,EN,ao c];rfl
 ·rw[eO (by simp;omega),EN,ag c]
theorem BS {α:Type} (g:Nat→α→Nat) {n i:Nat} (l:List α) (h:i<n):(fZ g n l)[i]?=some ((every n i l).foldl g 0):=by
 unfold fZ;rw[aT,oF h];rfl
theorem K6 {α:Type} (g:Nat→α→Nat) {n:Nat} (hn:0<n) (l:List α) (x:α) {v:Nat} (hv:(fZ g n l)[l.length%n]?=some v):fZ g n (l++[x])=(fZ g n l).set (l.length%n) (g v x):=by
 have hi:=fG l.length hn;rw[BS g l hi] at hv;injection hv with hv
 apply j4;intro j;by_cases c:j<n
 ·rw[BS g _ c,List.getElem?_set,IF];by_cases d:l.length%n=j
  ·subst d;rw[ao rfl,ao rfl,ao (by rw[iU];exact hi),xC];show some (g _ x)=_;rw[hv]
  ·rw[ag d,ag d,BS g l c]
 ·rw[eO (by rw[iU];omega),eO (by rw[Fb,iU];omega)]
theorem za {α:Type}:∀l:List α,(List.range l.length).filterMap (fun (k:Nat)=>l[k]?)=l
 | []=>rfl
 | a::r=>by
  rw[cN,Fm,oN];show a::_=_;congr 1;rw[List.filterMap_map];exact za r
theorem K7 {α:Type} (l:List α):every 1 0 l=l:=by
 unfold every;have e:(fun (k:Nat)=>if k%1=0 then l[k]? else none)=fun k=>l[k]?:=by funext k;rw[Nat.mod_one,ao rfl]
 rw[e,za]
theorem ou (t:Fmt):t.zero false=0:=by rw[jR];rfl
def pj {α:Type} (t:Fmt) (m:Mode) (g:Nat→α→Nat) (n:Nat) (l:List α):Nat:=t.halved m n (fZ g n l)
def fN (o:Int):Nat:=if o=0 then 1 else if o=1 then 2 else if o=2 then 4 else 8
def kQ (t:Fmt) (m:Mode) (l:List Kind):Nat:=(l.foldl LongSum.add LongSum.empty).get t m
def Ff (t:Fmt) (m:Mode) (o:Int) (l:List Nat):Nat:=if o=4 then kQ t m (l.map t.kind) else pj t m (t.add m) (fN o) l
def Fg (t:Fmt) (m:Mode) (o:Int) (l:List (Nat×Nat)):Nat:=if o=4 then kQ t m (l.map fun p=>timesKinds (t.kind p.1) (t.kind p.2)) else pj t m (fun s p=>t.fma m p.1 p.2 s) (fN o) l
theorem wA {α:Type} (t:Fmt) (m:Mode) (g:Nat→α→Nat) (l:List α):pj t m g 1 l=l.foldl g 0:=by
 unfold pj fZ;rw[show List.range 1=[0] from rfl,fT,K7];rfl
theorem N9 (t:Fmt) (m:Mode) {o:Int} (h:0≤o) (l:List Nat):NumCalls.told t (NumCalls.sumOf t m o.toNat l)=if o≤4 then NumCalls.number t (Ff t m o l) else NumCalls.BAD:=by
 obtain⟨j,rfl⟩:=aA h;unfold NumCalls.sumOf Ff;rw[aN]
 match j with
 | 0 =>
  rw[ag (show ¬(0:Nat)=4 by decide),ao (show ((0:Nat):Int)≤4 by decide),ag (show ¬((0:Nat):Int)=4 by decide),show fN ((0:Nat):Int)=1 from rfl,wA];show NumCalls.number t (t.sumLeft m l)=_;unfold Fmt.sumLeft;rw[ou]
 | 1 =>
  rw[ag (show ¬(1:Nat)=4 by decide),ao (show ((1:Nat):Int)≤4 by decide),ag (show ¬((1:Nat):Int)=4 by decide)];show NumCalls.number t (t.sumLanes m 2 l)=_;unfold Fmt.sumLanes Fmt.sumLeft;rw[ou];rfl
 | 2 =>
  rw[ag (show ¬(2:Nat)=4 by decide),ao (show ((2:Nat):Int)≤4 by decide),ag (show ¬((2:Nat):Int)=4 by decide)];show NumCalls.number t (t.sumLanes m 4 l)=_;unfold Fmt.sumLanes Fmt.sumLeft;rw[ou];rfl
 | 3 =>
  rw[ag (show ¬(3:Nat)=4 by decide),ao (show ((3:Nat):Int)≤4 by decide),ag (show ¬((3:Nat):Int)=4 by decide)];show NumCalls.number t (t.sumLanes m 8 l)=_;unfold Fmt.sumLanes Fmt.sumLeft;rw[ou];rfl
 | 4 =>
  rw[ao (show (4:Nat)=4 from rfl),ao (show ((4:Nat):Int)≤4 by decide),ao (show ((4:Nat):Int)=4 from rfl)];unfold kQ;rw[List.foldl_map];rfl
 | j+5 =>
  rw[ag (show ¬(j+5:Nat)=4 by omega),ag (show ¬((j+5:Nat):Int)≤4 by omega)];rfl
theorem Oa (t:Fmt) (m:Mode) {o:Int} (h:0≤o) (l:List (Nat×Nat)):NumCalls.told t (NumCalls.dotOf t m o.toNat l)=if o≤4 then NumCalls.number t (Fg t m o l) else NumCalls.BAD:=by
 obtain⟨j,rfl⟩:=aA h;unfold NumCalls.dotOf Fg;rw[aN]
 match j with
 | 0 =>
  rw[ag (show ¬(0:Nat)=4 by decide),ao (show ((0:Nat):Int)≤4 by decide),ag (show ¬((0:Nat):Int)=4 by decide),show fN ((0:Nat):Int)=1 from rfl,wA];show NumCalls.number t (t.dotLeft m l)=_;unfold Fmt.dotLeft;rw[ou]
 | 1 =>
  rw[ag (show ¬(1:Nat)=4 by decide),ao (show ((1:Nat):Int)≤4 by decide),ag (show ¬((1:Nat):Int)=4 by decide)];show NumCalls.number t (t.dotLanes m 2 l)=_;unfold Fmt.dotLanes Fmt.dotLeft;rw[ou];rfl
 | 2 =>
  rw[ag (show ¬(2:Nat)=4 by decide),ao (show ((2:Nat):Int)≤4 by decide),ag (show ¬((2:Nat):Int)=4 by decide)];show NumCalls.number t (t.dotLanes m 4 l)=_;unfold Fmt.dotLanes Fmt.dotLeft;rw[ou];rfl
 | 3 =>
  rw[ag (show ¬(3:Nat)=4 by decide),ao (show ((3:Nat):Int)≤4 by decide),ag (show ¬((3:Nat):Int)=4 by decide)];show NumCalls.number t (t.dotLanes m 8 l)=_;unfold Fmt.dotLanes Fmt.dotLeft;rw[ou];rfl
 | 4 =>
  rw[ao (show (4:Nat)=4 from rfl),ao (show ((4:Nat):Int)≤4 by decide),ao (show ((4:Nat):Int)=4 from rfl)];unfold kQ;rw[List.foldl_map];rfl
 | j+5 =>
  rw[ag (show ¬(j+5:Nat)=4 by omega),ag (show ¬((j+5:Nat):Int)≤4 by omega)];rfl
theorem lV {a b:Nat}:((a:Int)%(b:Int)=0)↔a%b=0:=by omega
theorem Fh {L N:Nat} (h:L%N=0) (hN:0<N):64<L/N↔¬(L:Int)≤64*(N:Int):=by
 have e:=gD L N;rw[h,Nat.add_zero] at e;have e2:(L:Int)=(L/N:Nat)*(N:Int):=by rw[←eR,eF,e]
 rw[e2];generalize L/N=q;constructor
 ·intro z w;have:65*(N:Int)≤(q:Int)*N:=i4 Kf Kf;omega
 ·intro z;refine Nat.lt_of_not_le fun w=>z ?_;exact i4 Kf Kf
theorem Ax (s:St) {k o m:Int} (hk:0≤k) (ho:0≤o) (hm:0≤m) {l:List Int} (hl:cS l):NumNeutral.step s [[11,k,o,m],l] =
  (s,if (k≤3∧o≤4∧m≤4)∧(l.length:Int)%nb (fm k)=0∧(l.length:Int)≤64*nb (fm k) then hZ (fm k) (Ff (fm k) (md m) o ((gw (nb (fm k)).toNat l).map Int.toNat)) else [-1]):=by
 show (s,lK (NumCalls.by_ k.toNat m.toNat _))=_;rw[lG hk hm];have ⟨_,n2,n8⟩:=gz k;have Z8:=ml (fm k);have hn:NumCalls.Fmt.bytes (fm k)=(nb (fm k)).toNat:=by omega
 have uU:0<(nb (fm k)).toNat:=by omega
 have u4:nb (fm k)=(((nb (fm k)).toNat:Nat):Int):=by omega
 by_cases c1:k≤3
 ·by_cases c2:m≤4
  ·rw[ao ⟨c1,c2⟩,nW (fm k) uU hn _ l hl (by rw[iE];exact bB _)];by_cases c3:l.length%(nb (fm k)).toNat=0
   ·rw[if_pos c3];dsimp only;rw[List.length_map,chunk_len];have hdiv:NumCalls.MANY<l.length/(nb (fm k)).toNat↔¬(l.length:Int)≤64*nb (fm k):=by
     have:=Fh c3 uU;rw[←u4] at this;exact this
    have K8:(l.length:Int)%nb (fm k)=0:=by rw[u4];exact lV.mpr c3
    by_cases c4:(l.length:Int)≤64*nb (fm k)
    ·rw[ag fun z=>(hdiv.mp z) c4,N9 _ _ ho];by_cases c5:o≤4
     ·rw[ao c5,ao ⟨⟨c1,c5,c2⟩,K8,c4⟩,ja]
     ·rw[ag c5,ag fun z=>c5 z.1.2.1];rfl
    ·rw[ao (hdiv.mpr c4),ag fun z=>c4 z.2.2];rfl
   ·have K8:¬(l.length:Int)%nb (fm k)=0:=by rw[u4];exact fun z=>c3 (lV.mp z)
    rw[ag c3,ag fun z=>K8 z.2.1];rfl
  ·rw[ag fun z=>c2 z.2,ag fun z=>c2 z.1.2.2];rfl
 ·rw[ag fun z=>c1 z.1,ag fun z=>c1 z.1.1];rfl
theorem Ay (s:St) {k o m:Int} (hk:0≤k) (ho:0≤o) (hm:0≤m) {l h:List Int} (hl:cS l) (hh:cS h):NumNeutral.step s [[12,k,o,m],l,h] =
  (s,if ((k≤3∧o≤4∧m≤4)∧(l.length:Int)%nb (fm k)=0∧(l.length:Int)≤64*nb (fm k))∧l.length=h.length then
   hZ (fm k) (Fg (fm k) (md m) o (((gw (nb (fm k)).toNat l).map Int.toNat).zip ((gw (nb (fm k)).toNat h).map Int.toNat))) else [-1]):=by
 show (s,lK (NumCalls.by_ k.toNat m.toNat _))=_;rw[lG hk hm];have ⟨_,n2,n8⟩:=gz k;have Z8:=ml (fm k);have hn:NumCalls.Fmt.bytes (fm k)=(nb (fm k)).toNat:=by omega
 have uU:0<(nb (fm k)).toNat:=by omega
 have u4:nb (fm k)=(((nb (fm k)).toNat:Nat):Int):=by omega
 by_cases c1:k≤3
 ·by_cases c2:m≤4
  ·rw[ao ⟨c1,c2⟩,nW (fm k) uU hn _ l hl (by rw[iE];exact bB _),nW (fm k) uU hn _ h hh (by rw[iE];exact bB _)];by_cases c3:l.length%(nb (fm k)).toNat=0
   ·rw[ao c3];have K8:(l.length:Int)%nb (fm k)=0:=by rw[u4];exact lV.mpr c3
    have dl:=gD l.length (nb (fm k)).toNat;rw[c3] at dl;by_cases c6:h.length%(nb (fm k)).toNat=0
    ·rw[if_pos c6];dsimp only;rw[List.length_map,chunk_len,List.length_map,chunk_len];have dh:=Nat.div_add_mod h.length (nb (fm k)).toNat;rw[c6] at dh;have hlen:l.length/(nb (fm k)).toNat=h.length/(nb (fm k)).toNat↔l.length=h.length:=by
      constructor
      ·intro z;rw[←dl,←dh,z]
      ·intro z;rw[z]
     have hdiv:NumCalls.MANY<l.length/(nb (fm k)).toNat↔¬(l.length:Int)≤64*nb (fm k):=by
      have:=Fh c3 uU;rw[←u4] at this;exact this
     by_cases c7:l.length=h.length
     ·by_cases c4:(l.length:Int)≤64*nb (fm k)
      ·rw[ag (show ¬(l.length/(nb (fm k)).toNat≠h.length/(nb (fm k)).toNat∨NumCalls.MANY<l.length/(nb (fm k)).toNat) from by
        rintro(z | z)
        ·exact z (hlen.mpr c7)
        ·exact(hdiv.mp z) c4),Oa _ _ ho]
       by_cases c5:o≤4
       ·rw[ao c5,ao ⟨⟨⟨c1,c5,c2⟩,K8,c4⟩,c7⟩,ja]
       ·rw[ag c5,ag fun z=>c5 z.1.1.2.1];rfl
      ·rw[ao (.inr (hdiv.mpr c4)),ag fun z=>c4 z.1.2.2];rfl
     ·rw[ao (.inl fun z=>c7 (hlen.mp z)),ag fun z=>c7 z.2];rfl
    ·have c7:¬l.length=h.length:=fun z=>c6 (by rw[←z];exact c3);rw[ag c6,ag fun z=>c7 z.2];rfl
   ·have K8:¬(l.length:Int)%nb (fm k)=0:=by rw[u4];exact fun z=>c3 (lV.mp z)
    have PQ:¬(((k≤3∧o≤4∧m≤4)∧(l.length:Int)%nb (fm k)=0∧(l.length:Int)≤64*nb (fm k))∧l.length=h.length):=fun z=>K8 z.1.2.1;rw[ag c3,ag PQ];rfl
  ·rw[ag fun z=>c2 z.2,ag fun z=>c2 z.1.1.2.2];rfl
 ·rw[ag fun z=>c1 z.1,ag fun z=>c1 z.1.1.1];rfl
theorem IL (t:Fmt) (m:Mode) (f:Nat) {l:List Nat} (h:l.length≤1):t.halved m f l=l.headD 0:=by
 cases f with
 | zero=>unfold Fmt.halved;rw[ou]
 | succ f=>unfold Fmt.halved;rw[ao h,ou]
theorem K9 (t:Fmt) (m:Mode) (f:Nat) {l:List Nat} (h:¬l.length≤1):t.halved m (f+1) l=t.halved m f (((l.take (l.length/2)).zip (l.drop (l.length/2))).map fun (p:Nat×Nat)=>t.add m p.1 p.2):=by
 rw[Fmt.halved,ag h]
end BF
namespace BF
open Lw
theorem BU (f:Nat):PyFlat.calls PyWrlnta.shape f []=some []:=by cases f<;>rfl
theorem zb {f:Nat} {p:Int} {r:List Int} {cs:List (List (List Int))} (h:PyFlat.calls PyWrlnta.shape (f+1) (p::r)=some cs) :
  ∃c t u5,PyFlat.call PyWrlnta.shape (p::r)=some (c,t)∧PyFlat.calls PyWrlnta.shape f t=some u5∧cs=c::u5:=by
 unfold PyFlat.calls at h;cases h1:PyFlat.call PyWrlnta.shape (p::r) with
 | none=>rw[h1] at h;cases h
 | some x =>
  obtain⟨c,t⟩:=x;rw[h1] at h;dsimp only at h;cases h2:PyFlat.calls PyWrlnta.shape f t with
  | none=>rw[h2] at h;cases h
  | some u5 =>
   rw[h2] at h;exact⟨c,t,u5,rfl,h2,(bM h).symm⟩
theorem Ob {r x s:List Int} (h:PyFlat.row r=some (x,s)):∃n:Int,0≤n∧r=n::(x++s)∧(x.length:Int)=n:=by
 cases r with
 | nil=>cases h
 | cons n r =>
  unfold PyFlat.row at h;dsimp only at h;split at h
  ·next k =>
   injection h with h
   injection h with h1 h2
   refine⟨n,k.1,by rw[←h1,←h2,Ib],?_⟩;rw[←h1,fM];omega
  ·cases h
def bL:List (List Int)→List Int
 | []=>[]
 | x::xs=>(x.length:Int)::(x++bL xs)
theorem BV:∀{k:Nat} {r:List Int} {xs:List (List Int)} {s:List Int},PyFlat.rows k r=some (xs,s)→r=bL xs++s∧xs.length=k
 | 0,r,xs,s,h=>by
  unfold PyFlat.rows at h;injection h with h
  injection h with h1 h2
  subst h1 h2;exact⟨rfl,rfl⟩
 | k+1,r,xs,s,h=>by
  unfold PyFlat.rows at h;cases h1:PyFlat.row r with
  | none=>rw[h1] at h;cases h
  | some y =>
   obtain⟨x,s1⟩:=y;rw[h1] at h;dsimp only at h;cases h2:PyFlat.rows k s1 with
   | none=>rw[h2] at h;cases h
   | some z =>
    obtain⟨ys,s2⟩:=z;rw[h2] at h;dsimp only at h;injection h with h
    injection h with h3 h4
    subst h3 h4;obtain⟨n,n0,e,el⟩:=Ob h1;have ⟨e2,e3⟩:=BV h2;refine⟨?_,by rw[cN,e3]⟩;rw[e,e2];show n::(x++(bL ys++s2))=((x.length:Int)::(x++bL ys))++s2;rw[el,IB,kG]
theorem BW {p:Int} {r:List Int} {c:List (List Int)} {t:List Int} (h:PyFlat.call PyWrlnta.shape (p::r)=some (c,t)) :
  ∃n k W R,PyWrlnta.shape p=some (n,k)∧c=(p::W)::R∧W.length=n∧R.length=k∧p::r=p::(W++(bL R++t)):=by
 unfold PyFlat.call at h;dsimp only at h;cases h1:PyWrlnta.shape p with
 | none=>rw[h1] at h;cases h
 | some x =>
  obtain⟨n,k⟩:=x;rw[h1] at h;dsimp only at h;split at h
  ·cases h
  ·next hl =>
   cases h2:PyFlat.rows k (r.drop n) with
   | none=>rw[h2] at h;cases h
   | some y =>
    obtain⟨xs,s⟩:=y;rw[h2] at h;dsimp only at h;injection h with h
    injection h with h3 h4
    subst h3 h4;have ⟨e1,e2⟩:=BV h2;refine⟨n,k,r.take n,xs,rfl,rfl,by rw[fM];omega,e2,?_⟩;rw[←e1,Ib]
def T4 (c:List (List Int)):Prop:=∃(p:Int) (n k:Nat) (W:List Int) (R:List (List Int)),PyWrlnta.shape p=some (n,k)∧c=(p::W)::R∧W.length=n∧R.length=k
theorem Oc {α:Type} {m:List α→Prop} (h:m []):∀l,l.length=0→m l:=fun _ e=>List.eq_nil_of_length_eq_zero e ▸ h
theorem zC {α:Type} {m:List α→Prop} (h:∀a,m [a]):∀l,l.length=1→m l:=by
 intro l e;cases l with
 | nil=>cases e
 | cons a l=>exact Oc (m:=fun t=>m (a::t)) (h a) l (sC e)
theorem zD {α:Type} {m:List α→Prop} (h:∀a b,m [a,b]):∀l,l.length=2→m l:=by
 intro l e;cases l with
 | nil=>cases e
 | cons a l=>exact zC (m:=fun t=>m (a::t)) (h a) l (sC e)
theorem BX {α:Type} {m:List α→Prop} (h:∀a b c,m [a,b,c]):∀l,l.length=3→m l:=by
 intro l e;cases l with
 | nil=>cases e
 | cons a l=>exact zD (m:=fun t=>m (a::t)) (h a) l (sC e)
theorem W7 {α:Type} {m:List α→Prop} (h:∀a b c d,m [a,b,c,d]):∀l,l.length=4→m l:=by
 intro l e;cases l with
 | nil=>cases e
 | cons a l=>exact BX (m:=fun t=>m (a::t)) (h a) l (sC e)
theorem Z9 {α:Type} {m:List α→Prop} (h:∀a b c d e,m [a,b,c,d,e]):∀l,l.length=5→m l:=by
 intro l e;cases l with
 | nil=>cases e
 | cons a l=>exact W7 (m:=fun t=>m (a::t)) (h a) l (sC e)
theorem kl6 {α:Type} {m:List α→Prop} (h:∀a b c d e f,m [a,b,c,d,e,f]):∀l,l.length=6→m l:=by
 intro l e;cases l with
 | nil=>cases e
 | cons a l=>exact Z9 (m:=fun t=>m (a::t)) (h a) l (sC e)
theorem u6 {p q:Int} {x y z:Option (Nat×Nat)} {C:Prop} (e:(if p=q then x else y)=z) (a:p=q→x=z→C) (b:y=z→C):C:=by
 by_cases h:p=q
 ·exact a h (by rw[ao h] at e;exact e)
 ·exact b (by rw[ag h] at e;exact e)
theorem oP {p q:Int} {n k n' k':Nat} {W:List Int} {R:List (List Int)} {P:List (List Int)→Prop} (h:∀W R,W.length=n'→R.length=k'→P ((q::W)::R)) (hW:W.length=n) (hR:R.length=k) (z:p=q) (e:some (n',k')=some (n,k)):P ((p::W)::R):=by
 cases e;subst z;exact h W R hW hR
theorem BY {P:List (List Int)→Prop} (h0:∀a b c u v,P [[0,a,b,c],u,v]) (h1:∀a b u v w,P [[1,a,b],u,v,w]) (h2:∀a b c u,P [[2,a,b,c],u]) (h3:∀a b c u,P [[3,a,b,c],u])
  (h4:∀a b c u v,P [[4,a,b,c],u,v]) (h5:∀a b u v,P [[5,a,b],u,v]) (h6:∀a u,P [[6,a],u]) (h7:∀a b u,P [[7,a,b],u]) (h8:P [[8]]) (h9:∀a u v,P [[9,a],u,v])
  (tT:∀a b,P [[10,a,b]]) (Gs:∀a b c u,P [[11,a,b,c],u]) (h12:∀a b c u v,P [[12,a,b,c],u,v]) (h13:∀a b c d u,P [[13,a,b,c,d],u]) (WS:∀a b c,P [[14,a,b,c]]) {c:List (List Int)} (h:T4 c):P c:=by
 obtain⟨p,n,k,W,R,e,rfl,hW,hR⟩:=h;refine u6 e (oP (fun W R w r=>BX (m:=fun W=>P ((0::W)::R)) (fun a b c=>zD (m:=fun R=>P ([0,a,b,c]::R)) (fun u v=>h0 a b c u v) R r) W w) hW hR) fun e=>?_;refine u6 e (oP (fun W R w r=>zD (m:=fun W=>P ((1::W)::R)) (fun a b=>BX (m:=fun R=>P ([1,a,b]::R)) (fun u v y=>h1 a b u v y) R r) W w) hW hR) fun e=>?_;refine u6 e (oP (fun W R w r=>BX (m:=fun W=>P ((2::W)::R)) (fun a b c=>zC (m:=fun R=>P ([2,a,b,c]::R)) (fun u=>h2 a b c u) R r) W w) hW hR) fun e=>?_;refine u6 e (oP (fun W R w r=>BX (m:=fun W=>P ((3::W)::R)) (fun a b c=>zC (m:=fun R=>P ([3,a,b,c]::R)) (fun u=>h3 a b c u) R r) W w) hW hR) fun e=>?_;refine u6 e (oP (fun W R w r=>BX (m:=fun W=>P ((4::W)::R)) (fun a b c=>zD (m:=fun R=>P ([4,a,b,c]::R)) (fun u v=>h4 a b c u v) R r) W w) hW hR) fun e=>?_;refine u6 e (oP (fun W R w r=>zD (m:=fun W=>P ((5::W)::R)) (fun a b=>zD (m:=fun R=>P ([5,a,b]::R)) (fun u v=>h5 a b u v) R r) W w) hW hR) fun e=>?_;refine u6 e (oP (fun W R w r=>zC (m:=fun W=>P ((6::W)::R)) (fun a=>zC (m:=fun R=>P ([6,a]::R)) (fun u=>h6 a u) R r) W w) hW hR) fun e=>?_;refine u6 e (oP (fun W R w r=>zD (m:=fun W=>P ((7::W)::R)) (fun a b=>zC (m:=fun R=>P ([7,a,b]::R)) (fun u=>h7 a b u) R r) W w) hW hR) fun e=>?_;refine u6 e (oP (fun W R w r=>Oc (m:=fun W=>P ((8::W)::R)) (Oc (m:=fun R=>P ([8]::R)) h8 R r) W w) hW hR) fun e=>?_;refine u6 e (oP (fun W R w r=>zC (m:=fun W=>P ((9::W)::R)) (fun a=>zD (m:=fun R=>P ([9,a]::R)) (fun u v=>h9 a u v) R r) W w) hW hR) fun e=>?_;refine u6 e (oP (fun W R w r=>zD (m:=fun W=>P ((10::W)::R)) (fun a b=>Oc (m:=fun R=>P ([10,a,b]::R)) (tT a b) R r) W w) hW hR) fun e=>?_;refine u6 e (oP (fun W R w r=>BX (m:=fun W=>P ((11::W)::R)) (fun a b c=>zC (m:=fun R=>P ([11,a,b,c]::R)) (fun u=>Gs a b c u) R r) W w) hW hR) fun e=>?_;refine u6 e (oP (fun W R w r=>BX (m:=fun W=>P ((12::W)::R)) (fun a b c=>zD (m:=fun R=>P ([12,a,b,c]::R)) (fun u v=>h12 a b c u v) R r) W w) hW hR) fun e=>?_;refine u6 e (oP (fun W R w r=>W7 (m:=fun W=>P ((13::W)::R)) (fun a b c d=>zC (m:=fun R=>P ([13,a,b,c,d]::R)) (fun u=>h13 a b c d u) R r) W w) hW hR) fun e=>?_;refine u6 e (oP (fun W R w r=>BX (m:=fun W=>P ((14::W)::R)) (fun a b c=>Oc (m:=fun R=>P ([14,a,b,c]::R)) (WS a b c) R r) W w) hW hR) fun e=>?_;cases e
theorem IQ {c:List (List Int)} (h:T4 c):PyWrlnta.whole c=c :=
 BY (P:=fun c=>PyWrlnta.whole c=c) (fun _ _ _ _ _=>rfl) (fun _ _ _ _ _=>rfl) (fun _ _ _ _=>rfl) (fun _ _ _ _=>rfl) (fun _ _ _ _ _=>rfl) (fun _ _ _ _=>rfl) (fun _ _=>rfl) (fun _ _ _=>rfl) rfl (fun _ _ _=>rfl)
  (fun _ _=>rfl) (fun _ _ _ _=>rfl) (fun _ _ _ _ _=>rfl) (fun _ _ _ _ _=>rfl) (fun _ _ _=>rfl) h
theorem u7:∀{f:Nat} {l:List Int} {cs:List (List (List Int))},PyFlat.calls PyWrlnta.shape f l=some cs→∀c∈cs,T4 c
 | f,[],cs,h=>by rw[BU] at h;cases h;exact fun c hc=>nomatch hc
 | 0,p::r,cs,h=>by cases h
 | f+1,p::r,cs,h=>by
  obtain⟨c,t,u5,h1,h2,rfl⟩:=zb h;intro x hx;rcases cO.1 hx with rfl | hx
  ·obtain⟨n,k,W,R,e,e1,e2,e3,_⟩:=BW h1;exact⟨p,n,k,W,R,e,e1,e2,e3⟩
  ·exact u7 h2 x hx
def W8 (c:List (List Int)):Prop:=NumNeutral.asked1 c=true∧T4 c
theorem IS {l:List Int} {cs:List (List (List Int))} (h:PyFlat.calls PyWrlnta.shape l.length l=some cs):PyWrlnta.answers l=PyFlat.told (PyFlat.played NumNeutral.step NumNeutral.start cs) ∧
  (PyWrlnta.answers_asked l=true→cs.length≤400∧cs≠[]∧∀c∈cs,W8 c):=by
 have e:PyWrlnta.calls l=some cs:=by
  unfold PyWrlnta.calls;rw[h];dsimp only;congr 1;rw[List.map_congr_left fun c hc=>(IQ (u7 h c hc)).trans (id_eq (a:=c)).symm];exact List.map_id cs
 refine⟨by unfold PyWrlnta.answers;rw[e],fun ha=>?_⟩;unfold PyWrlnta.answers_asked at ha;rw[e] at ha;dsimp only at ha;unfold NumNeutral.asked PyFlat.atMost at ha;simp only[Bool.and_eq_true,decide_eq_true_iff,Bool.not_eq_true',List.all_eq_true] at ha;exact⟨ha.1,fun z=>by rw[z] at ha;simp at ha,fun c hc=>⟨ha.2.2.2 c hc,u7 h c hc⟩⟩
theorem IT {l:List Int} (h:PyWrlnta.answers_asked l=true):∃cs,PyFlat.calls PyWrlnta.shape l.length l=some cs:=by
 unfold PyWrlnta.answers_asked PyWrlnta.calls at h;cases e:PyFlat.calls PyWrlnta.shape l.length l with
 | none=>rw[e] at h;cases h
 | some cs=>exact⟨cs,rfl⟩
def kY:List (Int×Int):=[(3,2),(2,3),(3,1),(3,1),(3,2),(2,2),(1,1),(2,1),(0,0),(1,2),(2,0),(3,1),(3,2),(4,1),(3,0)]
theorem IU {p:Int} {n k:Nat} (h:PyWrlnta.shape p=some (n,k)):0≤p∧p≤14∧kY[p.toNat]?=some ((n:Int),(k:Int)):=by
 have hp:0≤p∧p≤14:=by
  refine qQ fun z=>?_;unfold PyWrlnta.shape at h;simp only[show p≠0 by omega,show p≠1 by omega,show p≠2 by omega,show p≠3 by omega,show p≠4 by omega,show p≠5 by omega,show p≠6 by omega,show p≠7 by omega,show p≠8 by omega,show p≠9 by omega,
   show p≠10 by omega,show p≠11 by omega,show p≠12 by omega,show p≠13 by omega,show p≠14 by omega,aM] at h
  cases h
 refine⟨hp.1,hp.2,?_⟩;have key:∀q:Nat,q≤14→PyWrlnta.shape (q:Int)=(kY[q]?).map fun x=>(x.1.toNat,x.2.toNat):=by decide
 obtain⟨q,rfl⟩:=aA hp.1;have aaa:∀q:Nat,q≤14→∃x:Int×Int,kY[q]?=some x∧0≤x.1∧0≤x.2:=by
  intro q hq;have:∀q:Nat,q≤14→(match kY[q]? with
   | some x=>decide (0≤x.1∧0≤x.2)
   | none=>false)=true:=by decide
  have:=this q hq;cases e:kY[q]? with
  | none=>rw[e] at this;cases this
  | some x=>rw[e] at this;exact⟨x,rfl,eU this⟩
 obtain⟨x,ex,x1,x2⟩:=aaa q Kf;have:=key q Kf;rw[h,ex] at this;simp only[rj,Option.some.injEq,Prod.mk.injEq] at this;show kY[q]?=_;rw[ex];congr 1;apply Prod.ext
 ·show x.1=_;omega
 ·show x.2=_;omega
end BF
namespace BF
open Lw
structure ik (p unit d E:Int):Prop where
 u0:0<unit
 d0:0<d
 eq:(unit:Rat)*ten E=two (p-2)*d
theorem ik.start (p:Int):ik p (1*2^(if (0:Int)>p-2 then 0 else p-2).toNat) (1*2^(if (0:Int)>2-p then 0 else 2-p).toNat) 0:=by
 rw[dc,dc];refine⟨aX _,aX _,?_⟩;rw[jU,cC];by_cases h:0≤p-2
 ·rw[ag (show ¬(0:Int)>p-2 by omega),show (if (0:Int)>2-p then (0:Int) else 2-p).toNat=0 by split<;>omega,show ((2^0:Int):Rat)=1 from rfl,cC,←gc];congr 1;omega
 ·rw[ao (show (0:Int)>p-2 by omega),ag (show ¬(0:Int)>2-p by omega)];show ((2^0:Int):Rat)=_;rw[show ((2^0:Int):Rat)=1 from rfl,←gc,←aY];rw[show p-2+(((2-p).toNat:Nat):Int)=0 by omega,de]
theorem ik.IV {p u d E:Int} (h:ik p u d E):ik p u (10*d) (E+1):=by
 refine⟨h.u0,by have:=h.d0;omega,?_⟩;have e:=h.eq;rw[sY,bh];show (u:Rat)*(10*ten E)=two (p-2)*(10*(d:Rat));grind
theorem ik.W9 {p u d E:Int} (h:ik p u d E):ik p (10*u) d (E-1):=by
 refine⟨by have:=h.u0;omega,h.d0,?_⟩;have e:=h.eq;rw[bh];have t:ten E=10*ten (E-1):=by rw[←sY];congr 1;omega
 rw[t] at e;show (10*(u:Rat))*ten (E-1)=_;grind
theorem ik.val {p u d E:Int} (h:ik p u d E) (S:Int):((4*S*u:Int):Rat)*ten E=(S:Rat)*two p*d:=by
 have p4:two p=4*two (p-2):=by
  have:two p=two 2*two (p-2):=by rw[←aY];congr 1;omega
  rw[this];rfl
 rw[bh,bh,bV,h.eq,p4];show (4:Rat)*S*_=_;grind
theorem ik.ge10 {p u d E:Int} (h:ik p u d E) (S:Int):10*d≤4*S*u↔ten (E+1)≤(S:Rat)*two p:=by
 rw[←oU,←Iy E,h.val S];have:(((10*d:Int)):Rat)*ten E=ten (E+1)*d:=by
  rw[sY,bh];show (10:Rat)*d*_=_;grind
 rw[this];rw[←dY,←dY,jX h.d0]
theorem ik.lt {p u d E:Int} (h:ik p u d E) (S:Int):4*S*u<d↔(S:Rat)*two p<ten E:=by
 rw[←mz,←jW E,h.val S,e9 (d:Rat)];exact jX h.d0
theorem tu {k:Int} {S p:Int} {X:Nat} (N:Norm (fm k) S p X):ten (-325)≤(S:Rat)*two p∧(S:Rat)*two p<ten 309∧-1100≤log2 ((S:Rat)*two p)∧log2 ((S:Rat)*two p)≤1100∧0<(S:Rat)*two p:=by
 have sm:=gL k;have ⟨a,b⟩:=K4 (dk k) N;have q0:0<(S:Rat)*two p:=fC (eW.mpr N.s0) (two_pos p);have ⟨c,d⟩:=g6 q0;have l1:=(ot (L:=-1074) J9 J9).1;have l2:=(ot (L:=1023) J9 J9).2;have e1:two (-1074)≤two (log2 ((S:Rat)*two p)):=gq Kf;have e2:two (log2 ((S:Rat)*two p)+1)≤two (1023+1):=gq Kf;have f1:((-1074:Int)*30103/100000-1)=-325:=by decide
 have f2:((1023:Int)*30103/100000+2)=309:=by decide
 rw[f1] at l1;rw[f2] at l2;exact⟨by grind,by grind,Kf,Kf,q0⟩
theorem Fj:∀(f d:Nat) (e:Int),(stripped f d e).1≤d∧e≤(stripped f d e).2∧(stripped f d e).2≤e+f
 | 0,d,e=>⟨bB _,oE _,by show e≤e+0;omega⟩
 | f+1,d,e=>by
  unfold stripped;split
  ·have ⟨a,b,c⟩:=Fj f (d/10) (e+1);exact⟨Kf,Kf,Kf⟩
  ·exact⟨bB _,oE _,by show e≤e+((f+1:Nat):Int);omega⟩
theorem IW {k:Int} {S p:Int} {X:Nat} (N:Norm (fm k) S p X) {i d:Nat} (hi:i<17) (h:jq (fm k) X ((S:Rat)*two p) (log10 ((S:Rat)*two p)-i)=some d):0<d∧d≤10^17:=by
 have ⟨a,b,c,e,q0⟩:=tu N;have ⟨l1,l2⟩:=nV q0 c e;have t:ten (log10 ((S:Rat)*two p)-i)≤ten (log10 ((S:Rat)*two p)):=qj Kf;have ⟨z,f⟩:=IC (Bc t l1) h;refine⟨z,bZ (f (i+1) ?_) (fb J9 Kf)⟩;rw[show log10 ((S:Rat)*two p)-(i:Int)+((i+1:Nat):Int)=log10 ((S:Rat)*two p)+1 by omega];exact l2
theorem Gu {k:Int} {S p:Int} {X:Nat} (N:Norm (fm k) S p X):-326≤log10 ((S:Rat)*two p)∧log10 ((S:Rat)*two p)≤309:=by
 have ⟨a,b,c,e,q0⟩:=tu N;have ⟨l1,l2⟩:=nV q0 c e;have x:=jV.mp (show ten (-325)<ten (log10 ((S:Rat)*two p)+1) by grind);have y:=jV.mp (show ten (log10 ((S:Rat)*two p))<ten 309 by grind);omega
theorem ME {k:Int} {S p:Int} {X:Nat} (N:Norm (fm k) S p X):∃D,jq (fm k) X ((S:Rat)*two p) (log10 ((S:Rat)*two p)-(16:Nat))=some D:=by
 have ⟨a,b,c,e,q0⟩:=tu N;have ⟨l1,l2⟩:=nV q0 c e;refine found (fm k) (dk k) (gL k).1 N ?_;rw[show log10 ((S:Rat)*two p)-((16:Nat):Int)+16=log10 ((S:Rat)*two p) by omega];exact l1
theorem Gv {k:Int} {S p:Int} {X:Nat} (N:Norm (fm k) S p X):(shortest (fm k) X ((S:Rat)*two p)).1≤10^17∧-400≤(shortest (fm k) X ((S:Rat)*two p)).2∧(shortest (fm k) X ((S:Rat)*two p)).2≤400:=by
 have ⟨D,hD⟩:=ME N;have ls:=Gu N;have main:∀n:Nat,n≤16→(∀i:Nat,i<16-n→jq (fm k) X ((S:Rat)*two p) (log10 ((S:Rat)*two p)-i)=none)→∃i d,i<17∧(∀j:Nat,j<i→jq (fm k) X ((S:Rat)*two p) (log10 ((S:Rat)*two p)-j)=none)∧jq (fm k) X ((S:Rat)*two p) (log10 ((S:Rat)*two p)-i)=some d:=by
  intro n
  induction n with
  | zero=>exact fun _ h=>⟨16,D,J9,h,hD⟩
  | succ n ih =>
   intro hn h;cases e:jq (fm k) X ((S:Rat)*two p) (log10 ((S:Rat)*two p)-((16-(n+1):Nat):Int)) with
   | some d=>exact⟨16-(n+1),d,Kf,h,e⟩
   | none =>
    refine ih Kf fun i hi=>?_;by_cases c:i<16-(n+1)
    ·exact h i c
    ·rw[show i=16-(n+1) by omega];exact e
 obtain⟨i,d,hi,h1,h2⟩:=main 16 (bB _) (fun i hi=>absurd hi Kf);rw[wm (fm k) X _ hi h1 h2];have ⟨a,b,c⟩:=Fj 20 d (log10 ((S:Rat)*two p)-i);have:=(IW N hi h2).2;exact⟨Kf,Kf,Kf⟩
theorem QJ {k:Int} {X Y:Nat} {s:Bool} {q:Rat} (d:(fm k).kind X=.num s q) (m:(X:Int)%aU (fm k)=Y):(fm k).abs X=Y:=by
 unfold Fmt.abs Fmt.isNan;rw[d];rw[←dX] at m;show (if false=true then _ else _)=_;rw[ag J9];omega
theorem La {k:Int} {X:Nat} (hx:X<2*(fm k).sign) (h1:cp (fm k) X=false) (h2:hG (fm k) X=false) (h3:eA (fm k) X=false) :
  ∃(Y:Nat) (s:Bool) (q:Rat),(fm k).kind X=.num s q∧size q=((ta (fm k) (X:Int)).size:Rat)*two (ta (fm k) (X:Int)).power∧(fm k).abs X=Y∧Norm (fm k) (ta (fm k) (X:Int)).size (ta (fm k) (X:Int)).power Y:=by
 rcases way (fm k) (dk k) hx with ⟨a,b⟩ | ⟨s,a,b,c,d,e⟩ | ⟨s,Y,S,p,a,b,c,d,e,f,g,i,j,l,m⟩
 ·rw[a] at h1;cases h1
 ·rw[b] at h2;cases h2
 ·have Od:=h3;rw[c] at h3;have s0:S≠0:=lM h3;unfold cp at a;unfold hG at b;unfold eA at Od;have n1:=lM a;have n2:=lM b;have n3:=lM Od;obtain⟨S',p',e1,N⟩:=QF (fm k) s (X:=Y) Kf Kf;rw[←l,f] at e1;obtain⟨rfl,rfl⟩:S=S'∧p=p':=by
   unfold bN at e1;injection e1 with _ _ _ q1 q2
   exact⟨q1,q2⟩
  refine⟨Y,s,_,d,?_,QJ d m,by rw[f];exact N⟩;rw[f];have q0:0<(S:Rat)*two p:=fC (eW.mpr N.s0) (two_pos p);show size _=(S:Rat)*two p;unfold size bK;cases s
  ·show (if (S:Rat)*two p<0 then _ else _)=_;rw[ag (by grind)];rfl
  ·show (if -((S:Rat)*two p)<0 then _ else _)=_;rw[ao (by grind)];show - -_=_;grind
end BF
namespace BF
open Lw
def QK (b:Bytes):Bool:=decide ((b.drop 1).take 1=[43])||decide ((b.drop 1).take 1=[45])
def ko (b:Bytes):Bytes:=if QK b=true then b.drop 2 else b.drop 1
def uv (b:Bytes):Bool:=decide (ko b=[])||(decide (3<(ko b).length)||decide (((ko b).takeWhile isDigit).length<(ko b).length))
theorem take1 {s:Bytes} {c:UInt8}:s.take 1=[c]↔s.head?=some c:=by
 cases s<;>simp
theorem ql (p:UInt8→Bool):∀x:Bytes,(x.takeWhile p).length<x.length↔x.all p=false
 | []=>by simp
 | c::x=>by
  have ih:=ql p x;by_cases h:p c=true
  ·rw[sO,ao h,uC,h,fJ,←ih,cN,cN];omega
  ·rw[sO,ag h,uC,aV _ |>.mp h];simp
theorem nY {b:Bytes} (h:b≠[]):fY b=if (b.getD 0 0).toNat≠101∧(b.getD 0 0).toNat≠69 then none else if uv b=true then none else some (if (b.getD 1 0).toNat=45 then -((numberOf (ko b):Nat):Int) else ((numberOf (ko b):Nat):Int)):=by
 cases b with
 | nil=>exact absurd rfl h
 | cons c s =>
  unfold fY;dsimp only;have e0:(c::s).getD 0 0=c:=rfl;have k1:c.toNat≠101↔c≠101:=⟨fun z w=>z (by rw[w];rfl),fun z w=>z (UInt8.toNat_inj.mp (by rw[w];rfl))⟩;have k2:c.toNat≠69↔c≠69:=⟨fun z w=>z (by rw[w];rfl),fun z w=>z (UInt8.toNat_inj.mp (by rw[w];rfl))⟩;rw[e0];simp only[k1,k2];by_cases hc:c≠101∧c≠69
  ·rw[ao hc,ao hc]
  ·rw[ag hc,ag hc];have hs:QK (c::s)=true↔(s.head?=some 43∨s.head?=some 45):=by
    unfold QK;rw[bR,bj,bj];show (s.take 1=[43]∨s.take 1=[45])↔_;rw[take1,take1]
   have hd:ko (c::s)=if s.head?=some 43∨s.head?=some 45 then s.drop 1 else s:=by
    unfold ko;simp only[hs];rfl
   rw[←hd];have hb:uv (c::s)=true↔(ko (c::s)=[]∨3<(ko (c::s)).length∨(ko (c::s)).all isDigit=false):=by
    unfold uv;rw[bR,bR,bj,bj,bj,ql]
   by_cases kb:uv (c::s)=true
   ·rw[ao kb,ao (hb.mp kb)]
   ·rw[ag kb,ag fun z=>kb (hb.mpr z)];have e1:((c::s).getD 1 0).toNat=45↔s.head?=some 45:=by
     cases s with
     | nil =>
      have:ko [c]=[]:=by rw[hd];simp
      exact absurd (hb.mpr (.inl this)) kb
     | cons d r =>
      show d.toNat=45↔some d=some 45;exact⟨fun z=>by rw[UInt8.toNat_inj.mp (show d.toNat=(45:UInt8).toNat from z)],fun z=>by injection z with z;rw[z];rfl⟩
    simp only[e1]
theorem BZ {b:Bytes} (h:¬uv b=true):2≤b.length∧(∀c∈ko b,48≤c.toNat)∧(ko b).length≤3:=by
 unfold uv at h;rw[bR,bR,bj,bj,bj,ql] at h;refine⟨?_,fun c hc=>?_,Kf⟩
 ·refine Nat.not_lt.mp fun z=>h (.inl ?_);unfold ko;split
  ·exact xG Kf
  ·exact xG Kf
 ·have:(ko b).all isDigit=true:=IM _ |>.mp fun z=>h (.inr (.inr z));have:=nq.mp this c hc;unfold isDigit at this;rw[cI,bj] at this;exact this.1
theorem kR {b:Bytes} {e:Int} (h:fY b=some e):-1000≤e∧e≤1000:=by
 by_cases hb:b=[]
 ·subst hb;injection h with h
  omega
 ·rw[nY hb] at h;split at h
  ·cases h
  ·split at h
   ·cases h
   ·next kb =>
    have ⟨l1,l2,l3⟩:=BZ kb;have n3:numberOf (ko b)<1000:=by
     have gen:∀(x:Bytes) (n:Nat),x.all isDigit=true→x.foldl (fun (n:Nat) (c:UInt8)=>10*n+(c.toNat-48)) n<(n+1)*10^x.length:=by
      intro x
      induction x with
      | nil=>intro n _;simp
      | cons c x ih =>
       intro n hx;rw[uC,cI] at hx;have hc:=hx.1;unfold isDigit at hc;rw[cI,bj,bj] at hc;have:=ih (10*n+(c.toNat-48)) hx.2;rw[cN,gW];have k:=vW (10^x.length) (show 10*n+(c.toNat-48)+1≤(n+1)*10 by omega);rw[we,eF 10 (10^x.length)] at k;exact b5 this k
     have ad:(ko b).all isDigit=true:=by
      unfold uv at kb;rw[bR,bR,bj,bj,bj,ql] at kb;exact IM _ |>.mp fun z=>kb (.inr (.inr z))
     have:=gen (ko b) 0 ad;have p:(10:Nat)^(ko b).length≤10^3:=fb J9 l3;unfold numberOf;omega
    injection h with h
    split at h<;>omega
def wB (b:Bytes):Bytes:=b.takeWhile isDigit
def fB (b:Bytes):Bytes:=(b.drop ((wB b).length+1)).takeWhile isDigit
theorem rO (p:UInt8→Bool):∀x:Bytes,x.take (x.takeWhile p).length=x.takeWhile p
 | []=>rfl
 | c::x=>by
  rw[sO];split
  ·rw[cN,List.take_succ_cons,rO p x]
  ·rfl
theorem mO {b:Bytes} (h:(b.drop (wB b).length).take 1=[46]):gQ b=if fB b=[] then none else if wB b=[] then none else (fY (b.drop ((wB b).length+1+(fB b).length))).map fun (e:Int)=>(numberOf (wB b++fB b),e-((fB b).length:Int)):=by
 have h':=take1.mp h;cases hr:b.drop (wB b).length with
 | nil=>rw[hr] at h';cases h'
 | cons c s =>
  rw[hr] at h';injection h' with h'
  subst h';have hs:b.drop ((wB b).length+1)=s:=by rw[←me,hr];rfl
  have Nl:b.drop ((wB b).length+1+(fB b).length)=s.drop (fB b).length:=by rw[←me,hs]
  have ef:fB b=s.takeWhile isDigit:=by unfold fB;rw[hs]
  rw[yW (b:=b) hr,Nl,ef];rfl
theorem qm {b:Bytes} (h:¬(b.drop (wB b).length).take 1=[46]):gQ b=if wB b=[] then none else (fY (b.drop (wB b).length)).map fun e=>(numberOf (wB b),e):=by
 cases hr:b.drop (wB b).length with
 | nil=>rw[wo (b:=b) hr];rfl
 | cons c s =>
  refine yV (b:=b) hr fun z=>h ?_;rw[hr,z];rfl
end BF
namespace BF
open Lw
inductive Ask:List (List Int)→Prop
 | op (a b c:Int) (u v:List Int):0≤a→0≤b→0≤c→cS u→cS v→Ask [[0,a,b,c],u,v]
 | fma (a b:Int) (u v x:List Int):0≤a→0≤b→cS u→cS v→cS x→Ask [[1,a,b],u,v,x]
 | scale (a b e:Int) (u:List Int):0≤a→0≤b→cS u→Ask [[2,a,b,e],u]
 | conv (a b c:Int) (u:List Int):0≤a→0≤b→0≤c→cS u→Ask [[3,a,b,c],u]
 | fn (a b c:Int) (u v:List Int):0≤a→0≤b→0≤c→cS u→cS v→Ask [[4,a,b,c],u,v]
 | cmp (a b:Int) (u v:List Int):0≤a→0≤b→cS u→cS v→Ask [[5,a,b],u,v]
 | text (a:Int) (u:List Int):0≤a→cS u→Ask [[6,a],u]
 | read (a b:Int) (u:List Int):0≤a→0≤b→cS u→u.length≤20000→Ask [[7,a,b],u]
 | clear:Ask [[8]]
 | add (a:Int) (u v:List Int):0≤a→cS u→cS v→Ask [[9,a],u,v]
 | get (a b:Int):0≤a→0≤b→Ask [[10,a,b]]
 | sum (a b c:Int) (u:List Int):0≤a→0≤b→0≤c→cS u→u.length≤20000→Ask [[11,a,b,c],u]
 | dot (a b c:Int) (u v:List Int):0≤a→0≤b→0≤c→cS u→cS v→u.length≤20000→Ask [[12,a,b,c],u,v]
 | whole (a b c d:Int) (u:List Int):0≤a→0≤b→0≤c→0≤d→cS u→Ask [[13,a,b,c,d],u]
 | float (a b z:Int):0≤a→0≤b→-9007199254740992≤z→z≤9007199254740992→Ask [[14,a,b,z]]
theorem dO {u:List Int} {n:Nat} (h:NumNeutral.long u n 0 255=true):cS u∧u.length≤n:=by
 unfold NumNeutral.long at h;rw[cI,bj,nq] at h;exact⟨fun x hx=>by have:=h.2 x hx;rw[cI,bj,bj] at this;exact this,h.1⟩
theorem cf {z:Int} (h:NumNeutral.natural z 53=true):0≤z:=by
 unfold NumNeutral.natural at h;rw[cI,bj] at h;exact h.1
theorem bt {a b:Bool} (h:(a&&b)=true):a=true∧b=true:=(cI _ _).mp h
theorem T5 {c:List (List Int)} (h:W8 c):Ask c:=by
 obtain⟨h,hf⟩:=h;revert h;refine BY (P:=fun c=>NumNeutral.asked1 c=true→Ask c) ?_ ?_ ?_ ?_ ?_ ?_ ?_ ?_ ?_ ?_ ?_ ?_ ?_ ?_ ?_ hf
 ·intro a b c u v h;replace h:(NumNeutral.natural a 53&&(NumNeutral.natural b 53&&(NumNeutral.natural c 53&&(NumNeutral.long u 8 0 255&&NumNeutral.long v 8 0 255))))=true:=h;obtain⟨h0,h⟩:=bt h;obtain⟨h1,h⟩:=bt h;obtain⟨h2,h⟩:=bt h;obtain⟨h3,h⟩:=bt h;have h4:=h;exact .op _ _ _ _ _ (cf h0) (cf h1) (cf h2) (dO h3).1 (dO h4).1
 ·intro a b u v w h;replace h:(NumNeutral.natural a 53&&(NumNeutral.natural b 53&&(NumNeutral.long u 8 0 255&&(NumNeutral.long v 8 0 255&&NumNeutral.long w 8 0 255))))=true:=h;obtain⟨h0,h⟩:=bt h;obtain⟨h1,h⟩:=bt h;obtain⟨h2,h⟩:=bt h;obtain⟨h3,h⟩:=bt h;have h4:=h;exact .fma _ _ _ _ _ (cf h0) (cf h1) (dO h2).1 (dO h3).1 (dO h4).1
 ·intro a b c u h;replace h:(NumNeutral.natural a 53&&(NumNeutral.natural b 53&&(NumNeutral.whole53 c&&NumNeutral.long u 8 0 255)))=true:=h;obtain⟨h0,h⟩:=bt h;obtain⟨h1,h⟩:=bt h;obtain⟨h2,h⟩:=bt h;have h3:=h;exact .scale _ _ _ _ (cf h0) (cf h1) (dO h3).1
 ·intro a b c u h;replace h:(NumNeutral.natural a 53&&(NumNeutral.natural b 53&&(NumNeutral.natural c 53&&NumNeutral.long u 8 0 255)))=true:=h;obtain⟨h0,h⟩:=bt h;obtain⟨h1,h⟩:=bt h;obtain⟨h2,h⟩:=bt h;have h3:=h;exact .conv _ _ _ _ (cf h0) (cf h1) (cf h2) (dO h3).1
 ·intro a b c u v h;replace h:(NumNeutral.natural a 53&&(NumNeutral.natural b 53&&(NumNeutral.natural c 53&&(NumNeutral.long u 8 0 255&&NumNeutral.long v 8 0 255))))=true:=h;obtain⟨h0,h⟩:=bt h;obtain⟨h1,h⟩:=bt h;obtain⟨h2,h⟩:=bt h;obtain⟨h3,h⟩:=bt h;have h4:=h;exact .fn _ _ _ _ _ (cf h0) (cf h1) (cf h2) (dO h3).1 (dO h4).1
 ·intro a b u v h;replace h:(NumNeutral.natural a 53&&(NumNeutral.natural b 53&&(NumNeutral.long u 8 0 255&&NumNeutral.long v 8 0 255)))=true:=h;obtain⟨h0,h⟩:=bt h;obtain⟨h1,h⟩:=bt h;obtain⟨h2,h⟩:=bt h;have h3:=h;exact .cmp _ _ _ _ (cf h0) (cf h1) (dO h2).1 (dO h3).1
 ·intro a u h;replace h:(NumNeutral.natural a 53&&NumNeutral.long u 8 0 255)=true:=h;obtain⟨h0,h⟩:=bt h;have h1:=h;exact .text _ _ (cf h0) (dO h1).1
 ·intro a b u h;replace h:(NumNeutral.natural a 53&&(NumNeutral.natural b 53&&NumNeutral.long u 100 0 255))=true:=h;obtain⟨h0,h⟩:=bt h;obtain⟨h1,h⟩:=bt h;have h2:=h;exact .read _ _ _ (cf h0) (cf h1) (dO h2).1 (bZ (dO h2).2 J9)
 ·exact fun _=>.clear
 ·intro a u v h;replace h:(NumNeutral.natural a 53&&(NumNeutral.long u 8 0 255&&NumNeutral.long v 8 0 255))=true:=h;obtain⟨h0,h⟩:=bt h;obtain⟨h1,h⟩:=bt h;have h2:=h;exact .add _ _ _ (cf h0) (dO h1).1 (dO h2).1
 ·intro a b h;replace h:(NumNeutral.natural a 53&&NumNeutral.natural b 53)=true:=h;obtain⟨h0,h⟩:=bt h;have h1:=h;exact .get _ _ (cf h0) (cf h1)
 ·intro a b c u h;replace h:(NumNeutral.natural a 53&&(NumNeutral.natural b 53&&(NumNeutral.natural c 53&&NumNeutral.long u 1000 0 255)))=true:=h;obtain⟨h0,h⟩:=bt h;obtain⟨h1,h⟩:=bt h;obtain⟨h2,h⟩:=bt h;have h3:=h;exact .sum _ _ _ _ (cf h0) (cf h1) (cf h2) (dO h3).1 (bZ (dO h3).2 J9)
 ·intro a b c u v h;replace h:(NumNeutral.natural a 53&&(NumNeutral.natural b 53&&(NumNeutral.natural c 53&&(NumNeutral.long u 1000 0 255&&NumNeutral.long v 1000 0 255))))=true:=h;obtain⟨h0,h⟩:=bt h;obtain⟨h1,h⟩:=bt h;obtain⟨h2,h⟩:=bt h;obtain⟨h3,h⟩:=bt h;have h4:=h;exact .dot _ _ _ _ _ (cf h0) (cf h1) (cf h2) (dO h3).1 (dO h4).1 (bZ (dO h3).2 J9)
 ·intro a b c d u h;replace h:(NumNeutral.natural a 53&&(NumNeutral.natural b 53&&(NumNeutral.natural c 53&&(NumNeutral.natural d 53&&NumNeutral.long u 8 0 255))))=true:=h;obtain⟨h0,h⟩:=bt h;obtain⟨h1,h⟩:=bt h;obtain⟨h2,h⟩:=bt h;obtain⟨h3,h⟩:=bt h;have h4:=h;exact .whole _ _ _ _ _ (cf h0) (cf h1) (cf h2) (cf h3) (dO h4).1
 ·intro a b z h;replace h:(NumNeutral.natural a 53&&(NumNeutral.natural b 53&&NumNeutral.whole53 z))=true:=h;obtain⟨h0,h⟩:=bt h;obtain⟨h1,h⟩:=bt h;have h2:=h;unfold NumNeutral.whole53 at h2;rw[cI,bj,bj] at h2;exact .float _ _ _ (cf h0) (cf h1) Kf Kf
def pq (c:List (List Int)):Prop:=∀s:St,NumNeutral.step s c=(s,(NumNeutral.step NumCalls.start c).2)
theorem iN {c:List (List Int)} {x:List Int} (h:∀s:St,NumNeutral.step s c=(s,x)):pq c:=fun s=>by rw[h s,h NumCalls.start]
theorem QL {a b c:Int} {u v:List Int} (ha:0≤a) (hb:0≤b) (hc:0≤c) (hu:cS u) (hv:cS v):pq [[0,a,b,c],u,v]:=iN fun s=>Gp s ha hb hc hu hv
theorem Oe {a b:Int} {u v x:List Int} (ha:0≤a) (hb:0≤b) (hu:cS u) (hv:cS v) (hx:cS x):pq [[1,a,b],u,v,x]:=iN fun s=>Au s ha hb hu hv hx
theorem IX {a b e:Int} {u:List Int} (ha:0≤a) (hb:0≤b) (hu:cS u):pq [[2,a,b,e],u]:=iN fun s=>tf s ha hb hu
theorem Lb {a b c:Int} {u:List Int} (ha:0≤a) (hb:0≤b) (hc:0≤c) (hu:cS u):pq [[3,a,b,c],u]:=iN fun s=>wy s ha hb hc hu
theorem QM {a b c:Int} {u v:List Int} (ha:0≤a) (hb:0≤b) (hc:0≤c) (hu:cS u) (hv:cS v):pq [[4,a,b,c],u,v]:=iN fun s=>Gq s ha hb hc hu hv
theorem Of {a b:Int} {u v:List Int} (ha:0≤a) (hb:0≤b) (hu:cS u) (hv:cS v):pq [[5,a,b],u,v]:=iN fun s=>Av s ha hb hu hv
theorem Lc {a:Int} {u:List Int} (ha:0≤a) (hu:cS u):pq [[6,a],u]:=iN fun s=>wz s ha hu
theorem Ld {a b:Int} {u:List Int} (ha:0≤a) (hb:0≤b):pq [[7,a,b],u]:=iN fun s=>rN s ha hb u
theorem Og {a b c:Int} {u:List Int} (ha:0≤a) (hb:0≤b) (hc:0≤c) (hu:cS u):pq [[11,a,b,c],u]:=iN fun s=>Ax s ha hb hc hu
theorem Oh {a b c:Int} {u v:List Int} (ha:0≤a) (hb:0≤b) (hc:0≤c) (hu:cS u) (hv:cS v):pq [[12,a,b,c],u,v]:=iN fun s=>Ay s ha hb hc hu hv
theorem IY {a b c d:Int} {u:List Int} (ha:0≤a) (hb:0≤b) (hc:0≤c) (hd:0≤d) (hu:cS u):pq [[13,a,b,c,d],u]:=iN fun s=>tj s ha hb hc hd hu
theorem IZ {a b z:Int} (ha:0≤a) (hb:0≤b):pq [[14,a,b,z]]:=iN fun s=>tq s z ha hb
end BF
namespace BF
open Lw
theorem qo:∀xs ys:List (List Int),bL (xs++ys)=bL xs++bL ys
 | [],_=>rfl
 | x::xs,ys=>by
  show (x.length:Int)::(x++bL (xs++ys))=(x.length:Int)::(x++bL xs)++bL ys;rw[qo xs ys,IB,kG]
theorem Le {l:List Int} {S:Nat} {R:List (List Int)} {t:List Int} (h:l.drop S=bL R++t) {i:Nat} {r:List Int} (hi:R[i]?=some r) :
  l.drop (S+(bL (R.take i)).length)=(r.length:Int)::(r++(bL (R.drop (i+1))++t))∧(bL (R.take (i+1))).length=(bL (R.take i)).length+1+r.length:=by
 have oS:=(g9.mp hi).1;have hr:=(g9.mp hi).2;have e:R=R.take i++(r::R.drop (i+1)):=by
  rw[←hr,←IP oS,Ib]
 constructor
 ·rw[←me,h];have:bL R=bL (R.take i)++((r.length:Int)::(r++bL (R.drop (i+1)))):=by
   have:=a7 bL e;rw[qo] at this;exact this
  rw[this,kG,JT];rw[IB,kG]
 ·rw[sQ,hi,xP,qo,cT];show _+((r.length:Int)::(r++[])).length=_;rw[cN,fV];omega
theorem Fn:∀R:List (List Int),((bL R).length:Int)=(R.map fun r=>(1:Int)+r.length).sum
 | []=>rfl
 | r::R=>by
  rw[fT,List.sum_cons,←Fn R];show (((r.length:Int)::(r++bL R)).length:Int)=_;rw[cN,cT];omega
theorem I0 {f:Nat} {l:List Int} {cs:List (List (List Int))} (h:PyFlat.calls PyWrlnta.shape f l=some cs) (hl:l≠[]) :
  ∃f' p W R t u5,PyWrlnta.shape p=some (W.length,R.length)∧l=p::(W++(bL R++t))∧cs=((p::W)::R)::u5∧PyFlat.calls PyWrlnta.shape f' t=some u5:=by
 cases l with
 | nil=>exact absurd rfl hl
 | cons p r =>
  cases f with
  | zero=>cases h
  | succ f =>
   obtain⟨c,t,u5,h1,h2,rfl⟩:=zb h;obtain⟨n,k,W,R,e1,rfl,e2,e3,e4⟩:=BW h1;subst e2 e3;exact⟨f,p,W,R,t,u5,e1,e4,rfl,h2⟩
theorem Lf {f:Nat} {cs:List (List (List Int))} (h:PyFlat.calls PyWrlnta.shape f []=some cs):cs=[]:=by
 rw[BU] at h;exact(bM h).symm
end BF
namespace G
open PySem PySem.Spec PyProof.Rows L2
abbrev RR:=Addr→Value→Around→List Env→Shared→Prop
abbrev GG:=Addr→Value→Around→List Env→Shared→Hp→List V→VK→XK→Prop
theorem bg {α:Type} {p1 q:α→Prop} {a} (e1:p1 a) (h:q a):∃a,p1 a∧q a:=⟨a,e1,h⟩
theorem eG {α:Type} {p1 p2 q:α→Prop} {a} (e1:p1 a) (e2:p2 a) (h:q a):∃a,p1 a∧p2 a∧q a:=⟨a,e1,e2,h⟩
theorem bG {α β:Type} {p1 p2 q:α→β→Prop} {a b} (e1:p1 a b) (e2:p2 a b) (h:q a b):∃a b,p1 a b∧p2 a b∧q a b:=⟨a,b,e1,e2,h⟩
theorem bJ {α β:Type} {p1 p2 p3 q:α→β→Prop} {a b} (e1:p1 a b) (e2:p2 a b) (e3:p3 a b) (h:q a b):∃a b,p1 a b∧p2 a b∧p3 a b∧q a b:=⟨a,b,e1,e2,e3,h⟩
theorem eZ {α β γ:Type} {p1 p2 q:α→β→γ→Prop} {a b c} (e1:p1 a b c) (e2:p2 a b c) (h:q a b c):∃a b c,p1 a b c∧p2 a b c∧q a b c:=⟨a,b,c,e1,e2,h⟩
theorem jr {α β γ:Type} {p1 p2 p3 q:α→β→γ→Prop} {a b c} (e1:p1 a b c) (e2:p2 a b c) (e3:p3 a b c) (h:q a b c):∃a b c,p1 a b c∧p2 a b c∧p3 a b c∧q a b c:=⟨a,b,c,e1,e2,e3,h⟩
theorem gJ {α β γ δ:Type} {p1 p2 q:α→β→γ→δ→Prop} {a b c d} (e1:p1 a b c d) (e2:p2 a b c d) (h:q a b c d):∃a b c d,p1 a b c d∧p2 a b c d∧q a b c d:=⟨a,b,c,d,e1,e2,h⟩
theorem gj {α β γ δ:Type} {p1 p2 p3 q:α→β→γ→δ→Prop} {a b c d} (e1:p1 a b c d) (e2:p2 a b c d) (e3:p3 a b c d) (h:q a b c d):∃a b c d,p1 a b c d∧p2 a b c d∧p3 a b c d∧q a b c d:=⟨a,b,c,d,e1,e2,e3,h⟩
theorem il {α β γ δ:Type} {p1 p2 p3 p4 q:α→β→γ→δ→Prop} {a b c d} (e1:p1 a b c d) (e2:p2 a b c d) (e3:p3 a b c d) (e4:p4 a b c d) (h:q a b c d):∃a b c d,p1 a b c d∧p2 a b c d∧p3 a b c d∧p4 a b c d∧q a b c d:=⟨a,b,c,d,e1,e2,e3,e4,h⟩
theorem px {α β γ δ:Type} {p1 p2 p3 p4 p5 p6 q:α→β→γ→δ→Prop} {a b c d} (e1:p1 a b c d) (e2:p2 a b c d) (e3:p3 a b c d) (e4:p4 a b c d) (e5:p5 a b c d) (e6:p6 a b c d) (h:q a b c d):∃a b c d,p1 a b c d∧p2 a b c d∧p3 a b c d∧p4 a b c d∧p5 a b c d∧p6 a b c d∧q a b c d:=⟨a,b,c,d,e1,e2,e3,e4,e5,e6,h⟩
theorem jY {α β γ δ ε:Type} {p1 p2 q:α→β→γ→δ→ε→Prop} {a b c d e} (e1:p1 a b c d e) (e2:p2 a b c d e) (h:q a b c d e):∃a b c d e,p1 a b c d e∧p2 a b c d e∧q a b c d e:=⟨a,b,c,d,e,e1,e2,h⟩
theorem aR {α β:Type} {p1:α→Prop} {p2:α→β→Prop} {q:α→β→Prop} {a b} (e1:p1 a) (e2:p2 a b) (h:q a b):∃a,p1 a∧∃b,p2 a b∧q a b:=⟨a,e1,b,e2,h⟩
theorem aW {α β γ:Type} {p1:α→Prop} {p2:α→β→Prop} {p3:α→β→γ→Prop} {q:α→β→γ→Prop} {a b c} (e1:p1 a) (e2:p2 a b) (e3:p3 a b c) (h:q a b c):∃a,p1 a∧∃b,p2 a b∧∃c,p3 a b c∧q a b c:=⟨a,e1,b,e2,c,e3,h⟩
theorem ax {α β γ δ:Type} {p1:α→Prop} {p2:α→β→Prop} {p3:α→β→γ→Prop} {p4:α→β→γ→δ→Prop} {q:α→β→γ→δ→Prop} {a b c d} (e1:p1 a) (e2:p2 a b) (e3:p3 a b c) (e4:p4 a b c d) (h:q a b c d):∃a,p1 a∧∃b,p2 a b∧∃c,p3 a b c∧∃d,p4 a b c d∧q a b c d:=⟨a,e1,b,e2,c,e3,d,e4,h⟩
theorem bP {α β γ:Type} {p1:α→Prop} {p2 p3:α→β→γ→Prop} {q:α→β→γ→Prop} {a b c} (e1:p1 a) (e2:p2 a b c) (e3:p3 a b c) (h:q a b c):∃a,p1 a∧∃b c,p2 a b c∧p3 a b c∧q a b c:=⟨a,e1,b,c,e2,e3,h⟩
theorem aE {α β γ δ:Type} {p1:α→Prop} {p2 p3:α→β→γ→Prop} {p4:α→β→γ→δ→Prop} {q:α→β→γ→δ→Prop} {a b c d} (e1:p1 a) (e2:p2 a b c) (e3:p3 a b c) (e4:p4 a b c d) (h:q a b c d):∃a,p1 a∧∃b c,p2 a b c∧p3 a b c∧∃d,p4 a b c d∧q a b c d:=⟨a,e1,b,c,e2,e3,d,e4,h⟩
theorem br {α β γ δ:Type} {p1:α→Prop} {p2:α→β→Prop} {p3 p4:α→β→γ→δ→Prop} {q:α→β→γ→δ→Prop} {a b c d} (e1:p1 a) (e2:p2 a b) (e3:p3 a b c d) (e4:p4 a b c d) (h:q a b c d):∃a,p1 a∧∃b,p2 a b∧∃c d,p3 a b c d∧p4 a b c d∧q a b c d:=⟨a,e1,b,e2,c,d,e3,e4,h⟩
theorem eJ {α β γ:Type} {p1:α→Prop} {p2 p3 p4:α→β→γ→Prop} {q:α→β→γ→Prop} {a b c} (e1:p1 a) (e2:p2 a b c) (e3:p3 a b c) (e4:p4 a b c) (h:q a b c):∃a,p1 a∧∃b c,p2 a b c∧p3 a b c∧p4 a b c∧q a b c:=⟨a,e1,b,c,e2,e3,e4,h⟩
theorem bT {α β γ δ ε:Type} {p1:α→Prop} {p2 p3 p4 p5:α→β→γ→δ→ε→Prop} {q:α→β→γ→δ→ε→Prop} {a b c d e} (e1:p1 a) (e2:p2 a b c d e) (e3:p3 a b c d e) (e4:p4 a b c d e) (e5:p5 a b c d e) (h:q a b c d e):∃a,p1 a∧∃b c d e,p2 a b c d e∧p3 a b c d e∧p4 a b c d e∧p5 a b c d e∧q a b c d e:=⟨a,e1,b,c,d,e,e2,e3,e4,e5,h⟩
theorem cP {α β:Type} {p1:α→Prop} {p2 p3:α→β→Prop} {q:α→β→Prop} {a b} (e1:p1 a) (e2:p2 a b) (e3:p3 a b) (h:q a b):∃a,p1 a∧∃b,p2 a b∧p3 a b∧q a b:=⟨a,e1,b,e2,e3,h⟩
theorem bx {α β γ δ ε:Type} {p1:α→Prop} {p2:α→β→Prop} {p3 p4:α→β→γ→δ→Prop} {p5:α→β→γ→δ→ε→Prop} {q:α→β→γ→δ→ε→Prop} {a b c d e} (e1:p1 a) (e2:p2 a b) (e3:p3 a b c d) (e4:p4 a b c d) (e5:p5 a b c d e) (h:q a b c d e):∃a,p1 a∧∃b,p2 a b∧∃c d,p3 a b c d∧p4 a b c d∧∃e,p5 a b c d e∧q a b c d e:=⟨a,e1,b,e2,c,d,e3,e4,e,e5,h⟩
theorem ck {α β γ:Type} {p1 p2:α→β→Prop} {p3:α→β→γ→Prop} {q:α→β→γ→Prop} {a b c} (e1:p1 a b) (e2:p2 a b) (e3:p3 a b c) (h:q a b c):∃a b,p1 a b∧p2 a b∧∃c,p3 a b c∧q a b c:=⟨a,b,e1,e2,c,e3,h⟩
theorem xl0 {n:Nat} {f:List V} {r:List V→Hp→VK→XK→Prop} (e:(f).length=n:=by intros;rfl):∀vs H Q E,(vs=f∧r vs H Q E)→vs.length=n:=by rintro _ H Q E ⟨rfl,_⟩;exact e
theorem tW {α:Type} {n:Nat} {f:α→List V} {r:List V→Hp→VK→XK→α→Prop} (e:∀a,(f a).length=n:=by intros;rfl):∀vs H Q E,(∃a,vs=f a∧r vs H Q E a)→vs.length=n:=by rintro _ H Q E ⟨a,rfl,_⟩;exact e _
theorem lp {α β:Type} {n:Nat} {f:α→β→List V} {r:List V→Hp→VK→XK→α→β→Prop} (e:∀a b,(f a b).length=n:=by intros;rfl):∀vs H Q E,(∃a b,vs=f a b∧r vs H Q E a b)→vs.length=n:=by rintro _ H Q E ⟨a,b,rfl,_⟩;exact e _ _
theorem lW {α β γ:Type} {n:Nat} {f:α→β→γ→List V} {r:List V→Hp→VK→XK→α→β→γ→Prop} (e:∀a b c,(f a b c).length=n:=by intros;rfl):∀vs H Q E,(∃a b c,vs=f a b c∧r vs H Q E a b c)→vs.length=n:=by rintro _ H Q E ⟨a,b,c,rfl,_⟩;exact e _ _ _
theorem qS {α β γ δ:Type} {n:Nat} {f:α→β→γ→δ→List V} {r:List V→Hp→VK→XK→α→β→γ→δ→Prop} (e:∀a b c d,(f a b c d).length=n:=by intros;rfl):∀vs H Q E,(∃a b c d,vs=f a b c d∧r vs H Q E a b c d)→vs.length=n:=by rintro _ H Q E ⟨a,b,c,d,rfl,_⟩;exact e _ _ _ _
theorem B0 {α β γ δ ε:Type} {n:Nat} {f:α→β→γ→δ→ε→List V} {r:List V→Hp→VK→XK→α→β→γ→δ→ε→Prop} (e:∀a b c d i,(f a b c d i).length=n:=by intros;rfl):∀vs H Q E,(∃a b c d i,vs=f a b c d i∧r vs H Q E a b c d i)→vs.length=n:=by rintro _ H Q E ⟨a,b,c,d,i,rfl,_⟩;exact e _ _ _ _ _
theorem QO {α β γ δ ε ζ:Type} {n:Nat} {f:α→β→γ→δ→ε→ζ→List V} {r:List V→Hp→VK→XK→α→β→γ→δ→ε→ζ→Prop} (e:∀a b c d i j,(f a b c d i j).length=n:=by intros;rfl):∀vs H Q E,(∃a b c d i j,vs=f a b c d i j∧r vs H Q E a b c d i j)→vs.length=n:=by rintro _ H Q E ⟨a,b,c,d,i,j,rfl,_⟩;exact e _ _ _ _ _ _
theorem Xa {α β γ δ ε ζ η:Type} {n:Nat} {f:α→β→γ→δ→ε→ζ→η→List V} {r:List V→Hp→VK→XK→α→β→γ→δ→ε→ζ→η→Prop} (e:∀a b c d i j k,(f a b c d i j k).length=n:=by intros;rfl):∀vs H Q E,(∃a b c d i j k,vs=f a b c d i j k∧r vs H Q E a b c d i j k)→vs.length=n:=by rintro _ H Q E ⟨a,b,c,d,i,j,k,rfl,_⟩;exact e _ _ _ _ _ _ _
theorem Xb {α β γ δ ε ζ η θ:Type} {n:Nat} {f:α→β→γ→δ→ε→ζ→η→θ→List V} {r:List V→Hp→VK→XK→α→β→γ→δ→ε→ζ→η→θ→Prop} (e:∀a b c d i j k l,(f a b c d i j k l).length=n:=by intros;rfl):∀vs H Q E,(∃a b c d i j k l,vs=f a b c d i j k l∧r vs H Q E a b c d i j k l)→vs.length=n:=by rintro _ H Q E ⟨a,b,c,d,i,j,k,l,rfl,_⟩;exact e _ _ _ _ _ _ _ _
theorem xl9 {α β γ δ ε ζ η θ ι:Type} {n:Nat} {f:α→β→γ→δ→ε→ζ→η→θ→ι→List V} {r:List V→Hp→VK→XK→α→β→γ→δ→ε→ζ→η→θ→ι→Prop} (e:∀a b c d i j k l o,(f a b c d i j k l o).length=n:=by intros;rfl):∀vs H Q E,(∃a b c d i j k l o,vs=f a b c d i j k l o∧r vs H Q E a b c d i j k l o)→vs.length=n:=by rintro _ H Q E ⟨a,b,c,d,i,j,k,l,o,rfl,_⟩;exact e _ _ _ _ _ _ _ _ _
theorem VO {α β γ δ ε ζ η θ ι κ:Type} {n:Nat} {f:α→β→γ→δ→ε→ζ→η→θ→ι→κ→List V} {r:List V→Hp→VK→XK→α→β→γ→δ→ε→ζ→η→θ→ι→κ→Prop} (e:∀a b c d i j k l o s,(f a b c d i j k l o s).length=n:=by intros;rfl):∀vs H Q E,(∃a b c d i j k l o s,vs=f a b c d i j k l o s∧r vs H Q E a b c d i j k l o s)→vs.length=n:=by rintro _ H Q E ⟨a,b,c,d,i,j,k,l,o,s,rfl,_⟩;exact e _ _ _ _ _ _ _ _ _ _
theorem el0 {f:List V} {r:Hp→VK→XK→Prop} {R:RR} {g:GG} (h:∀y v A u s H Q E,R y v A u s→r H Q E→g y v A u s H f Q E):∀y v A u s H vs Q E,R y v A u s→(vs=f∧r H Q E)→g y v A u s H vs Q E:=by rintro y v A u s H _ Q E z ⟨rfl,w⟩;exact h _ _ _ _ _ _ _ _ z w
theorem tX {α:Type} {f:α→List V} {r:Hp→VK→XK→α→Prop} {R:RR} {g:GG} (h:∀y v A u s H Q E,R y v A u s→∀a,r H Q E a→g y v A u s H (f a) Q E):∀y v A u s H vs Q E,R y v A u s→(∃a,vs=f a∧r H Q E a)→g y v A u s H vs Q E:=by rintro y v A u s H _ Q E z ⟨a,rfl,w⟩;exact h _ _ _ _ _ _ _ _ z _ w
theorem lr {α β:Type} {f:α→β→List V} {r:Hp→VK→XK→α→β→Prop} {R:RR} {g:GG} (h:∀y v A u s H Q E,R y v A u s→∀a b,r H Q E a b→g y v A u s H (f a b) Q E):∀y v A u s H vs Q E,R y v A u s→(∃a b,vs=f a b∧r H Q E a b)→g y v A u s H vs Q E:=by rintro y v A u s H _ Q E z ⟨a,b,rfl,w⟩;exact h _ _ _ _ _ _ _ _ z _ _ w
theorem lX {α β γ:Type} {f:α→β→γ→List V} {r:Hp→VK→XK→α→β→γ→Prop} {R:RR} {g:GG} (h:∀y v A u s H Q E,R y v A u s→∀a b c,r H Q E a b c→g y v A u s H (f a b c) Q E):∀y v A u s H vs Q E,R y v A u s→(∃a b c,vs=f a b c∧r H Q E a b c)→g y v A u s H vs Q E:=by rintro y v A u s H _ Q E z ⟨a,b,c,rfl,w⟩;exact h _ _ _ _ _ _ _ _ z _ _ _ w
theorem qT {α β γ δ:Type} {f:α→β→γ→δ→List V} {r:Hp→VK→XK→α→β→γ→δ→Prop} {R:RR} {g:GG} (h:∀y v A u s H Q E,R y v A u s→∀a b c d,r H Q E a b c d→g y v A u s H (f a b c d) Q E):∀y v A u s H vs Q E,R y v A u s→(∃a b c d,vs=f a b c d∧r H Q E a b c d)→g y v A u s H vs Q E:=by rintro y v A u s H _ Q E z ⟨a,b,c,d,rfl,w⟩;exact h _ _ _ _ _ _ _ _ z _ _ _ _ w
theorem B3 {α β γ δ ε:Type} {f:α→β→γ→δ→ε→List V} {r:Hp→VK→XK→α→β→γ→δ→ε→Prop} {R:RR} {g:GG} (h:∀y v A u s H Q E,R y v A u s→∀a b c d i,r H Q E a b c d i→g y v A u s H (f a b c d i) Q E):∀y v A u s H vs Q E,R y v A u s→(∃a b c d i,vs=f a b c d i∧r H Q E a b c d i)→g y v A u s H vs Q E:=by rintro y v A u s H _ Q E z ⟨a,b,c,d,i,rfl,w⟩;exact h _ _ _ _ _ _ _ _ z _ _ _ _ _ w
theorem QP {α β γ δ ε ζ:Type} {f:α→β→γ→δ→ε→ζ→List V} {r:Hp→VK→XK→α→β→γ→δ→ε→ζ→Prop} {R:RR} {g:GG} (h:∀y v A u s H Q E,R y v A u s→∀a b c d i j,r H Q E a b c d i j→g y v A u s H (f a b c d i j) Q E):∀y v A u s H vs Q E,R y v A u s→(∃a b c d i j,vs=f a b c d i j∧r H Q E a b c d i j)→g y v A u s H vs Q E:=by rintro y v A u s H _ Q E z ⟨a,b,c,d,i,j,rfl,w⟩;exact h _ _ _ _ _ _ _ _ z _ _ _ _ _ _ w
theorem Xc {α β γ δ ε ζ η:Type} {f:α→β→γ→δ→ε→ζ→η→List V} {r:Hp→VK→XK→α→β→γ→δ→ε→ζ→η→Prop} {R:RR} {g:GG} (h:∀y v A u s H Q E,R y v A u s→∀a b c d i j k,r H Q E a b c d i j k→g y v A u s H (f a b c d i j k) Q E):∀y v A u s H vs Q E,R y v A u s→(∃a b c d i j k,vs=f a b c d i j k∧r H Q E a b c d i j k)→g y v A u s H vs Q E:=by rintro y v A u s H _ Q E z ⟨a,b,c,d,i,j,k,rfl,w⟩;exact h _ _ _ _ _ _ _ _ z _ _ _ _ _ _ _ w
theorem Xd {α β γ δ ε ζ η θ:Type} {f:α→β→γ→δ→ε→ζ→η→θ→List V} {r:Hp→VK→XK→α→β→γ→δ→ε→ζ→η→θ→Prop} {R:RR} {g:GG} (h:∀y v A u s H Q E,R y v A u s→∀a b c d i j k l,r H Q E a b c d i j k l→g y v A u s H (f a b c d i j k l) Q E):∀y v A u s H vs Q E,R y v A u s→(∃a b c d i j k l,vs=f a b c d i j k l∧r H Q E a b c d i j k l)→g y v A u s H vs Q E:=by rintro y v A u s H _ Q E z ⟨a,b,c,d,i,j,k,l,rfl,w⟩;exact h _ _ _ _ _ _ _ _ z _ _ _ _ _ _ _ _ w
theorem el9 {α β γ δ ε ζ η θ ι:Type} {f:α→β→γ→δ→ε→ζ→η→θ→ι→List V} {r:Hp→VK→XK→α→β→γ→δ→ε→ζ→η→θ→ι→Prop} {R:RR} {g:GG} (h:∀y v A u s H Q E,R y v A u s→∀a b c d i j k l o,r H Q E a b c d i j k l o→g y v A u s H (f a b c d i j k l o) Q E):∀y v A u s H vs Q E,R y v A u s→(∃a b c d i j k l o,vs=f a b c d i j k l o∧r H Q E a b c d i j k l o)→g y v A u s H vs Q E:=by rintro y v A u s H _ Q E z ⟨a,b,c,d,i,j,k,l,o,rfl,w⟩;exact h _ _ _ _ _ _ _ _ z _ _ _ _ _ _ _ _ _ w
theorem VP {α β γ δ ε ζ η θ ι κ:Type} {f:α→β→γ→δ→ε→ζ→η→θ→ι→κ→List V} {r:Hp→VK→XK→α→β→γ→δ→ε→ζ→η→θ→ι→κ→Prop} {R:RR} {g:GG} (h:∀y v A u s H Q E,R y v A u s→∀a b c d i j k l o p,r H Q E a b c d i j k l o p→g y v A u s H (f a b c d i j k l o p) Q E):∀y v A u s H vs Q E,R y v A u s→(∃a b c d i j k l o p,vs=f a b c d i j k l o p∧r H Q E a b c d i j k l o p)→g y v A u s H vs Q E:=by rintro y v A u s H _ Q E z ⟨a,b,c,d,i,j,k,l,o,p,rfl,w⟩;exact h _ _ _ _ _ _ _ _ z _ _ _ _ _ _ _ _ _ _ w
section
variable {P:Program} {w:World} {K:aP} {mg:Str→Option Value} {base:Heap}
theorem Lg {H H':Hp} {h h':Heap} {a:Addr} {o:HO} (x:gZ P w H h a o) (y:gZ P w H' h' a o):gZ P w H h' a o:=by
 induction o with
 | ins C dx fs=>exact⟨x.1,y.2⟩
 | oI ob u ih=>exact⟨y.1,ih x.2 y.2⟩
 | _=>exact y
theorem restrict {H H':Hp} {h h':Heap} (x:jt P w H h) (s:aI H H') (y:jt P w H' h'):jt P w H h':=fun a o e=>Lg (x a o e) (y a o (s a o e))
theorem Xe {CX:vK} {k:Nat} {f:Addr} {fd:FuncData} {ps:List Str} {sp QQ:Sp} (F:jy P w K mg base CX k f fd ps sp) (h:∀vs H Q E,QQ vs H Q E→sp vs H (fun v H'=>aI H H'∧Q v H) E):jy P w K mg base CX k f fd ps QQ:=by
 refine⟨fun vs H Q E q=>F.len _ _ _ _ (h _ _ _ _ q),fun A outer s H args us vs Q E hr he hb hv hs=>?_⟩;refine codeAny_mono (F.run A outer s H args us vs _ E hr he hb hv (h _ _ _ _ hs)) fun r s' hq=>?_;cases r with
 | error e=>exact hq
 | ok fl =>
  cases fl with
  | ret u =>
   obtain⟨v,H',os,bare,un,dr,rv,sm,q⟩:=hq;exact⟨v,H,os,bare,⟨un.keep,un.slot,fun _ _ _ n _=>n,un.there,fun _ _ e=>e,fun _ _ _ e=>e,fun b ps e=>⟨#[],by rw[e];simp⟩⟩,restrict he.dr sm dr,rv,q⟩
  | next=>exact hq
  | brk=>exact hq
  | cont=>exact hq
def Df (K:aP) (mg:Str→Option Value) (x:Str) (st:Stmt) (ps:List Str):Prop:=∃f fd,xO K x x st f fd∧mg x=some (.ref f)∧Binds K fd ps []
def cw (P:Program) (w:World) (K:aP) (mg:Str→Option Value) (base:Heap) (x:Str) (ps:List Str) (k:Nat) (sp:Sp):Prop :=
 ∃f fd,jy P w K mg base Bl k f fd ps sp∧mg x=some (.ref f)∧PySem.W.keepIn K (.ref f)=true∧Binds K fd ps []
theorem cQ {x:Str} {st:Stmt} {ps N:List Str} {k:Nat} {sp:Sp} (d:Df K mg x st ps) (S:aD N ps (ay st)) (len:∀vs H Q E,sp vs H Q E→vs.length=ps.length)
  (pU:∀(f:Addr) (bw:Value) (A:Around) (outer:List Env) (s:Shared) (H:Hp) (vs:List V) (Q:VK) (E:XK),fj k (A.deeper (envOfC x (ay st) s.heap.objs.size f bw))→sp vs H Q E →
   ∃t,qN (vN Bl P w K mg base N x (ay st) f bw A outer s H E).vE (gN st) t∧t { nx:=fun _ H'=>Q .fU H',rt:=Q } (start N vs) H):cw P w K mg base x ps (k+1) sp:=by
 obtain⟨f,fd,F,hm,hb⟩:=d;exact⟨f,fd,F.ok S len fun bw A outer s H vs Q E hr h=>pU f bw A outer s H vs Q E hr h,hm,F.kp,hb⟩
theorem bc {x:Str} {st:Stmt} {ps N:List Str} {k:Nat} {sp:Sp} (d:Df K mg x st ps) (S:aD N ps (ay st)) (len:∀vs H Q E,sp vs H Q E→vs.length=ps.length)
  (pU:∀(f:Addr) (bw:Value) (A:Around) (outer:List Env) (s:Shared) (H:Hp) (vs:List V) (Q:VK) (E:XK),fj k (A.deeper (envOfC x (ay st) s.heap.objs.size f bw))→sp vs H Q E →
   ∃t,qN (vN Bl P w K mg base N x (ay st) f bw A outer s H E).vE (gN st) t∧t { nx:=fun _ H'=>aI H H'∧Q .fU H,rt:=fun v H'=>aI H H'∧Q v H } (start N vs) H):cw P w K mg base x ps (k+1) sp:=by
 obtain⟨f,fd,F,hm,hb⟩:=d;refine⟨f,fd,Xe (sp:=fun vs H Q E=>∃Q',sp vs H Q' E∧Q=fun v H'=>aI H H'∧Q' v H) (F.ok S (fun vs H Q E ⟨Q',h,_⟩=>len vs H Q' E h) fun bw A outer s H vs Q E hr h=>?_) fun vs H Q E h=>⟨Q,h,rfl⟩,hm,F.kp,hb⟩;obtain⟨Q',h,rfl⟩:=h;exact pU f bw A outer s H vs Q' E hr h
end
section
variable {X:Cx} {x:Str} {ps:List Str} {j k:Nat} {sp:Sp} {p pos:Pos} {e:Expr} {es:List Expr} {t:TA}
abbrev MG (X:Cx) (x:Str) (ps:List Str) (k:Nat) (sp:Sp):Prop:=cw X.prog X.w X.K X.mg X.base x ps k sp
theorem Xf (h:MG X x ps j sp) (hr:fj k X.A) (hk:j≤k) (hg:Gl X x) (ha:PA X (e::es) t) (pT:(x==("__debug__":Str))=false:=by decide)
  (he:starEach (e::es) X.env=(false,eval e X.env)::starEach es X.env:=by rfl) (gG:(backTo pos (starEach es X.env)).any (·.1)=false:=by rfl) :
  PE X (.Call (.Name x p) (e::es) [] pos) (rh sp [] E0 t):=by
 obtain⟨f,fd,F,hm,kp,hb⟩:=h;exact HI F (hr.mono hk) hg hm kp hb .nil qb ha pT he gG
theorem T6 (h:MG X x ps j sp) (hr:fj k X.A) (hk:j≤k) (hg:Gl X x) (pT:(x==("__debug__":Str))=false:=by decide) :
  PE X (.Call (.Name x p) [] [] pos) (rh sp [] E0 EM):=by
 obtain⟨f,fd,F,hm,kp,hb⟩:=h;exact Nn F (hr.mono hk) hg hm kp hb .nil qb pT
def CI (mg:Str→Option Value) (x:Str) (i:Int):Prop:=∃t,mg x=some (.int i t)
def CT (K:aP) (mg:Str→Option Value) (x:Str) (xs:List V):Prop:=∃a,mg x=some (.ref a)∧∀H,j3 K H a xs
theorem aG {i:Int} (h:CI X.mg x i) (hg:Gl X x) (hd:(x==("__debug__":Str))=false:=by decide):PE X (.Name x pos) (tC (.int i)):=by
 obtain⟨t,h⟩:=h;exact Pk hg h ⟨t,rfl⟩ hd
def aab (xs:List V) (tb:TE):TE:=fun σ H Q=>tb σ H fun y H1=>∃i v,y=.int i∧lB xs i=some v∧Q v H1
theorem ia {xs:List V} {b:Expr} {tb:TE} (h:CT X.K X.mg x xs) (hg:Gl X x) (hb:PE X b tb) (hs:A8 b:=by exact fun _ _=>rfl) (hd:(x==("__debug__":Str))=false:=by decide) :
  PE X (.Subscript (.Name x p) b pos) (aab xs tb):=by
 obtain⟨a,h,hS⟩:=h;intro pins s σ H Q I hw;refine Subscript_ (j9 I hg h ?_ hd);refine dz (hb pins s σ H _ I hw) fun u s2 ⟨y,H2,I2,ry,i,v,e,g,q⟩=>?_;exact vQ _ _ pins s2 σ H2 (.ref a) y _ u Q I2 rfl ry ⟨a,xs,i,v,rfl,e,hS H2,g,q⟩ (hs _ _)
theorem Gw {xs:List V} (h:CT X.K X.mg x xs) (hg:Gl X x) (hd:(x==("__debug__":Str))=false:=by decide):PE X (.Name x pos) (fun _ H Q=>∀a,(∀H,j3 X.K H a xs)→Q (.ref a) H):=by
 obtain⟨a,h,hS⟩:=h;exact fun _ _ _ H _ I q=>j9 I hg h ⟨.ref a,H,I,rfl,q a hS⟩ hd
def Sm (n:Nat) (z:Int):Prop:=z.natAbs<2^n
theorem wC {n:Nat} {z:Int} (h:Sm n z):Builtin.Int.intBits z≤n:=by
 unfold Builtin.Int.intBits;split
 ·exact iA _
 ·next hz =>
  have h0:z.natAbs≠0:=by intro q;apply hz;simp;omega
  have:=(Nat.log2_lt h0).mpr h;omega
theorem cK:i7 X (binaryOp .Mult) (rI (fun i j=>Sm 60000 i∧Sm 60000 j) fun i j=>.int (i*j)):=Pt fun i j _ _ _ _ _ hc q=>mul_int q (PySem.IntMulOk.of_le (wC hc.1) (wC hc.2) J9)
theorem dT:i7 X (binaryOp .LShift) (rI (fun i j=>0≤j∧j≤60000∧Sm 60000 i) fun i j=>.int (i*2^j.toNat)):=Pt fun i j _ _ _ _ _ hc q=>lshift_int hc.1 (by
 have:=wC hc.2.2;have h2:(2:Int)^27=134217728:=rfl;have:=hc.2.1;omega) q
theorem ip:i7 X (binaryOp .FloorDiv) (rI (fun _ j=>0<j∧Sm 8999 j) fun i j=>.int (i/j)):=Pt fun i j _ _ _ _ _ hc q=>by
 refine floordiv_int (jw hc.1) (by rw[EH _ (bo hc.1)];exact q) (.inl (PyProof.noPylong_of_log2 ?_));have h0:j.natAbs≠0:=by have:=hc.1;omega
 have:=(Nat.log2_lt h0).mpr hc.2;omega
theorem QS (i:Int):((Builtin.Int.intBits i:Nat):Int)=BF.bl i:=by
 unfold Builtin.Int.intBits BF.bl;by_cases h:i=0
 ·subst h;rfl
 ·rw[ag h,ag (by simpa using h)];omega
theorem Xg:YM X "int.bit_length" (fun x xs H Q=>∃i,x=.int i∧xs=[]∧Q (.int (BF.bl i)) H):=by
 intro pins s σ H x xs v us Q I rx rs h;obtain⟨i,rfl,rfl,q⟩:=h;obtain⟨t,rfl⟩:=rx;cases rs;exact call_int_bit_length ⟨.int (BF.bl i),H,I.tok _,⟨_,by rw[←QS]⟩,q⟩
def tBl (ta:TE):TE:=fun σ H Q=>ta σ H fun x H1=>∃i,x=.int i∧Q (.int (BF.bl i)) H1
theorem Az {o:Expr} {to:TE} {apos qD:Pos} (ho:PE X o to) (uH:attributeBase o "bit_length" X.env (eval o X.env)=eval o X.env:=by rfl) (Kt:(apos.endLine==qD.line)=true:=by rfl) :
  PE X (.Call (.Attribute o "bit_length" apos) [] [] qD) (tBl to):=by
 intro pins s σ H Q I h;refine wpAny_Call_method0_late uH Kt (dz (ho pins s σ H _ I h) fun v s1 ⟨x,H1,I1,r1,i,e,q1⟩=>?_);subst e;obtain⟨h1,h2⟩:=Mn (T:="int") I1 r1 rfl;exact⟨"int","int.bit_length",PySem.F.plainAttrs_int,PySem.F.slot_int_bit_length,PySem.F.type_int_bit_length,h1,h2,Calls.callWith_builtin rfl (PySem.evalArgs_none (Xg pins s1 σ H1 _ [] v [] Q I1 r1 .nil ⟨i,rfl,rfl,q1⟩))⟩
theorem b6 {n:Nat} {z:Int} (h:z.natAbs<2^64) (hn:64≤n):Sm n z:=b5 h (fb J9 hn)
theorem u9 {j:Int} (h:0<j) (h2:j<18446744073709551616):0<j∧Sm 8999 j:=⟨h,b6 Kf J9⟩
def VQ (t:TT):TT:=fun σ H Q=>∃c,t σ H (fun b H1=>b=c∧H1=H)∧Q c H
def Xh (t:TE):TE:=fun σ H Q=>∃v,t σ H (fun x H1=>x=v∧H1=H)∧Q v H
def Xi (t:TS):TS:=fun D σ H=>∃σ',t { nx:=fun σ1 H1=>σ1=σ'∧H1=H,rt:=fun _ _=>False } σ H∧D.nx σ' H
theorem cy {e:Expr} {t:TT} (h:PT X e t):PT X e (VQ t):=by
 intro pins s σ H Q I hw;obtain⟨c,h1,q⟩:=hw;refine dz (h pins s σ H _ I h1) fun b s1 ⟨H1,I1,e1,e2⟩=>?_;subst e1 e2;exact⟨_,I1,q⟩
theorem cY {e:Expr} {t:TE} (h:PE X e t):PE X e (Xh t):=by
 intro pins s σ H Q I hw;obtain⟨v,h1,q⟩:=hw;refine dz (h pins s σ H _ I h1) fun b s1 ⟨x,H1,I1,rx,e1,e2⟩=>?_;subst e1 e2;exact⟨_,_,I1,rx,q⟩
theorem AA {st:Stmt} {t:TS} (h:PS X st t):PS X st (Xi t):=by
 intro pins s σ H D I hw;obtain⟨σ',h1,q⟩:=hw;refine dz (h pins s σ H _ I h1) fun fl s1 hs=>?_;cases fl with
 | next =>
  obtain⟨σ1,H1,I1,e1,e2⟩:=hs;subst e1 e2;exact⟨_,_,I1,q⟩
 | brk=>obtain⟨_,_,_,q⟩:=hs;exact False.elim q
 | cont=>obtain⟨_,_,_,q⟩:=hs;exact False.elim q
 | ret u=>obtain⟨_,_,_,_,_,q⟩:=hs;exact False.elim q
theorem B4 {f:Value→Value→Sem Value} {r r':R2} (h:i7 X f r) (hi:∀x y H Q,r' x y H Q→r x y H Q):i7 X f r':=fun pins s σ H x y v u Q I rx ry q=>h pins s σ H x y v u Q I rx ry (hi _ _ _ _ q)
theorem bp:i7 X (compareOp .Eq) (AW fun i j=>.bl (decide (i=j))):=B4 Pw fun x y H Q ⟨i,j,ex,ey,q⟩=>by
 subst ex ey;refine⟨rfl,?_⟩;have:decide (V.int i=V.int j)=decide (i=j):=by simp
 rw[this];exact q
theorem Gx:i7 X (compareOp .NotEq) (AW fun i j=>.bl (!decide (i=j))):=B4 Px fun x y H Q ⟨i,j,ex,ey,q⟩=>by
 subst ex ey;refine⟨rfl,?_⟩;have:decide (V.int i=V.int j)=decide (i=j):=by simp
 rw[this];exact q
def rB0 (g:Bool→Bool→V):R2:=fun x y H Q=>∃i j,x=.bl i∧y=.bl j∧Q (g i j) H
theorem Gy:i7 X (compareOp .Eq) (rB0 fun i j=>.bl (i==j)):=B4 Pw fun x y H Q ⟨i,j,ex,ey,q⟩=>by
 subst ex ey;refine⟨rfl,?_⟩;have:decide (V.bl i=V.bl j)=(i==j):=by cases i<;>cases j<;>rfl
 rw[this];exact q
theorem AD:i7 X (compareOp .NotEq) (rB0 fun i j=>.bl (i != j)):=B4 Px fun x y H Q ⟨i,j,ex,ey,q⟩=>by
 subst ex ey;refine⟨rfl,?_⟩;have:(!decide (V.bl i=V.bl j))=(i != j):=by cases i<;>cases j<;>rfl
 rw[this];exact q
theorem ai {H:Hp} {l:Addr} {o:HO} (h:H l=none):aI H (upd H l o):=fun b u e=>by rw[b7 (da e h)];exact e
theorem bD {Q:VK} {H:Hp} {a b:Int} (q:Q (.int b) H) (e:a=b):Q (.int a) H:=by rw[e];exact q
theorem wD {Q:VK} {H:Hp} {a b:Bool} (q:Q (.bl b) H) (e:a=b):Q (.bl a) H:=by rw[e];exact q
theorem boot_abs:bootBuiltins "abs"=some (.builtin "abs"):=by decide +kernel
theorem boot_min:bootBuiltins "min"=some (.builtin "min"):=by decide +kernel
theorem boot_max:bootBuiltins "max"=some (.builtin "max"):=by decide +kernel
theorem boot_sum:bootBuiltins "sum"=some (.builtin "sum"):=by decide +kernel
theorem boot_all:bootBuiltins "all"=some (.builtin "all"):=by decide +kernel
theorem boot_ord:bootBuiltins "ord"=some (.builtin "ord"):=by decide +kernel
def AL (u:BF.Ex):List (Str×V):=[("nan",.bl u.nan),("infinite",.bl u.inf),("negative",.bl u.neg),("size",.int u.size),("power",.int u.power)]
def eP (C:Addr) (H:Hp) (a:Addr) (u:BF.Ex):Prop:=∃dx,H a=some (.ins C dx (AL u))
theorem eP.same {C:Addr} {H H':Hp} {a:Addr} {u:BF.Ex} (h:eP C H a u) (s:aI H H'):eP C H' a u:=let ⟨dx,e⟩:=h;⟨dx,s a _ e⟩
inductive Fl:Str→(BF.Ex→V)→Prop
 | nan:Fl "nan" fun u=>.bl u.nan
 | inf:Fl "infinite" fun u=>.bl u.inf
 | neg:Fl "negative" fun u=>.bl u.neg
 | size:Fl "size" fun u=>.int u.size
 | power:Fl "power" fun u=>.int u.power
theorem Fl.look {f:Str} {g:BF.Ex→V} (h:Fl f g) (u:BF.Ex):(AL u).lookup f=some (g u):=by
 cases h<;>rfl
structure QT (K:aP) (C:Addr):Prop where
 cl:zu K C
 nan:f9 K C "nan"
 inf:f9 K C "infinite"
 neg:f9 K C "negative"
 size:f9 K C "size"
 power:f9 K C "power"
theorem QT.no {K:aP} {C:Addr} (c:QT K C) {f:Str} {g:BF.Ex→V} (h:Fl f g):f9 K C f:=by
 cases h
 ·exact c.nan
 ·exact c.inf
 ·exact c.neg
 ·exact c.size
 ·exact c.power
def tEx (C:Addr) (ta:TE) (g:BF.Ex→V):TE:=fun σ H Q=>ta σ H fun x H1=>∃a,x=.ref a∧∃u,eP C H1 a u∧Q (g u) H1
theorem a8 {C:Addr} {e:Expr} {ta:TE} {f:Str} {g:BF.Ex→V} (c:QT X.K C) (hf:Fl f g) (he:PE X e ta) (hb:attributeBase e f X.env (eval e X.env)=eval e X.env:=by rfl):PE X (.Attribute e f pos) (tEx C ta g):=by
 intro pins s σ H Q I h;refine HF hb (dz (he pins s σ H _ I h) fun u s1 ⟨x,H1,I1,rx,a,ex,v,⟨dx,ea⟩,q⟩=>?_);subst ex;obtain rfl:u=Value.ref a:=rx;exact yH I1 ea c.cl (c.no hf) (hf.look v) fun u' s2 I2 ru=>⟨g v,H1,I2,ru,q⟩
end
end G
section
namespace PySem
namespace F
theorem B5:Manifest.owners.lookup (String.ofList ['d','e','s','r','e','v','e','r'].reverse)=some Manifest.sig_reversed:=by kernel_rfl
theorem jb:Slot "reversed" "__next__" "reversed.__next__" :=
 .of (owner:="reversed") (n:="__next__") (by rw[typeLookup_type,builtinLookup_eq_fast];kernel_rfl) (by decide +kernel) (by decide +kernel) (by decide +kernel)
  (by first | exact .inl (by decide +kernel) | exact .inr (by decide +kernel)) (by rw[isSubtype_type];kernel_rfl)
theorem qG:entryFor table "reversed.__next__"=some Builtin.«reversed.__next__»:=entryFor_of_tree (by kernel_rfl)
theorem pz (a:Value):argsOk "reversed.__next__" ⟨[a],[]⟩:=by
 unfold argsOk;rw[signature?_of (id:="reversed.__next__") (n:=['_','_','t','x','e','n','_','_']) (o:=['d','e','s','r','e','v','e','r']) (by kernel_rfl) B5];kernel_rfl
theorem rP:Slot "reversed" "__iter__" "reversed.__iter__" :=
 .of (owner:="reversed") (n:="__iter__") (by rw[typeLookup_type,builtinLookup_eq_fast];kernel_rfl) (by decide +kernel) (by decide +kernel) (by decide +kernel)
  (by first | exact .inl (by decide +kernel) | exact .inr (by decide +kernel)) (by rw[isSubtype_type];kernel_rfl)
theorem xZ (a:Value):argsOk "reversed.__iter__" ⟨[a],[]⟩:=by
 unfold argsOk;rw[signature?_of (id:="reversed.__iter__") (n:=['_','_','r','e','t','i','_','_']) (o:=['d','e','s','r','e','v','e','r']) (by kernel_rfl) B5];kernel_rfl
theorem zE:entryFor table "reversed.__iter__"=some Builtin.«dict_keyiterator.__iter__» :=
 entryFor_alias (id':="dict_keyiterator.__iter__") (by kernel_rfl) (by first | rfl | decide +kernel | (unfold String.splitOn;simp +decide [String.splitOnAux])) (by decide +kernel) (by kernel_rfl)
theorem B6:Slot "reversed" "__init__" "object.__init__" :=
 .of (owner:="object") (n:="__init__") (by rw[typeLookup_type,builtinLookup_eq_fast];kernel_rfl) (by decide +kernel) (by decide +kernel) (by decide +kernel)
  (by first | exact .inl (by decide +kernel) | exact .inr (by decide +kernel)) (by rw[isSubtype_type];kernel_rfl)
theorem rQ:TypeCalled "reversed" "reversed.__new__" "object.__init__" :=
 ⟨by decide +kernel,by decide +kernel,⟨_,_,mro_reversed⟩,madeBy_type mro_reversed lookup_reversed_new (by decide +kernel),by decide +kernel,by rw[isSubtype_type];kernel_rfl,B6⟩
theorem ya:typeLookup (.type "tuple") "__reversed__"=pure none:=by rw[typeLookup_type,builtinLookup_eq_fast];kernel_rfl
theorem Gz:isSubtype (.type "tuple") (.type "dict")=pure false:=by rw[isSubtype_type];kernel_rfl
end F
open PyProof.Rows
section
variable {prog:Program} {w:World} {A:Around} {E:Value→Shared→Prop} {s:Shared}
def AE (l:Addr) (i:Int):Obj:={ cls:=.type "reversed",data:=.fields #[.ref l,rawInt i] }
def Heap.ow (h:Heap) (a l:Addr) (i:Int):Prop:=∃o,h.get? a=some o∧o.cls=.type "reversed"∧o.data=.fields #[.ref l,rawInt i]
theorem Heap.ow.typeIs {a l:Addr} {i:Int} (x:s.heap.ow a l i):s.TypeIs (.ref a) "reversed":=let ⟨o,ho,hc,_⟩:=x;⟨o,ho,hc⟩
theorem Heap.ow.at {h h':Heap} {a l:Addr} {i:Int} (x:h.ow a l i) (e:∀o,h.get? a=some o→h'.get? a=some o):h'.ow a l i:=let ⟨o,ho,r⟩:=x;⟨o,e _ ho,r⟩
theorem DW {l:Addr} {items:Array Value} {Q₁:Value→Shared→Prop} (hl:IsTup s.heap l items) (Bb:(items.size:Int)<2^63)
  (h:Q₁ (.ref s.heap.objs.size) { s with heap:=s.heap.push (AE l ((items.size:Int)-1)),toks:=s.toks+1+1 }) :
  codeAny (model prog w) A (.call (.builtin "reversed.__new__") ⟨[.type "reversed",.ref l],[]⟩) (wants Q₁ E) s:=by
 refine codeAny_of_tree ?_;show wpAny _ A.in1 (do checkBuiltinCall "reversed.__new__" ⟨[.type "reversed",.ref l],[]⟩;again (.builtin "reversed.__new__" ⟨[.type "reversed",.ref l],[]⟩)) _ _ s;refine wpAny_bind (wpAny_of_eq (F.newCall_reversed_1 _) (wpAny_pure ⟨plainId_quiet F.plain_reversed_new _,codeAny_builtin F.entry_reversed_new ?_⟩));rw[Around.under_plainId F.plain_reversed_new _];unfold Builtin.«reversed.__new__»;refine wpAny_bind (wpAny_of_eq (newClass_reversed _) ?_)
 try dsimp only
 refine wpAny_bind (wpAny_of_eq (a:=()) (by first | rfl | kernel_rfl) ?_);refine wpAny_bind (wpAny_of_eq (a:=()) (by first | rfl | kernel_rfl) ?_)
 try dsimp only
 refine wpAny_bind (wpAny_specialOf hl.typeIs F.ya ?_)
 try dsimp only
 refine wpAny_bind ?_;show wpAny _ _ (isInstance (.ref l) (.type "dict") >>= _) _ _ s;refine wpAny_bind (wpAny_isInstance hl.typeIs F.Gz ?_);rw[if_neg J9];show wpAny _ _ (specialOf (.ref l) "__getitem__" >>= _) _ _ s;refine wpAny_bind (wpAny_specialOf hl.typeIs slot_tuple_getitem.lookup ?_);dsimp only;rw[if_pos J9];refine wpAny_pure ?_;rw[if_neg J9];refine wpAny_bind (len_tuple hl Bb ?_);refine wpAny_bind ?_;refine wpAny_of_eq (a:=some (items.size:Int)) rfl ?_;dsimp only;show wpAny _ _ (newObj (.type "reversed") (.fields #[.ref l,rawInt ((items.size:Int)-1)]) >>= _) _ _ _;exact wpAny_bind (wpAny_newObj_type (wpAny_pure h))
theorem Oj {l:Addr} {items:Array Value} {Q:Value→Shared→Prop} (hl:IsTup s.heap l items) (Bb:(items.size:Int)<2^63)
  (h:Q (.ref s.heap.objs.size) { s with heap:=s.heap.push (AE l ((items.size:Int)-1)),toks:=s.toks+1+1 }):wpAny (model prog w) A (call (.type "reversed") [.ref l]) Q E s:=by
 refine callType_codes (Q₁:=fun obj s₁=>obj=.ref s.heap.objs.size∧s₁={ s with heap:=s.heap.push (AE l ((items.size:Int)-1)),toks:=s.toks+1+1 }) F.rQ (F.typeCall_reversed_1 _) F.entry_object_init (DW hl Bb ⟨rfl,rfl⟩) ?_;rintro obj s₁ ⟨rfl,rfl⟩;have hT:Shared.TypeIs { s with heap:=s.heap.push (AE l ((items.size:Int)-1)),toks:=s.toks+1+1 } (.ref s.heap.objs.size) "reversed":=⟨_,Heap.get?_push_size _ rfl,rfl⟩;refine⟨hT,F.args_object_init_2 _ _,?_⟩;exact object_init_meets F.rQ.init.lookup F.rQ.made J9 prog w A.in1 _ _ ⟨hT,rfl,h⟩
theorem B7 {it l:Addr} {i:Nat} {items:Array Value} {x:Value} {Q:Option Value→Shared→Prop} (lP:s.heap.ow it l (i:Int)) (hl:IsTup s.heap l items) (hi:(i:Int)<2^63) (hx:items[i]?=some x)
  (hQ:∀h' t,h'.ow it l ((i:Int)-1)→Heap.SameBut it s.heap h'→Q (some x) { s with heap:=h',toks:=t }):wpAny (model prog w) A (pyNext (.ref it)) Q E s:=by
 obtain⟨o,ho,hc,hd⟩:=id lP;unfold pyNext;refine wpAny_bind (wpAny_attempt (wpAny_callSpecial?_slot (name:=Str.ofString "__next__") lP.typeIs F.jb
  (wpAny_call_entry F.jb lP.typeIs F.qG ?_ (F.pz _))))
 unfold Builtin.«reversed.__next__»;refine wpAny_bind (wpAny_of_eq (a:=(Value.ref it,[])) rfl ?_)
 try dsimp only
 refine wpAny_bind (wpAny_field ho hd (x:=.ref l) rfl ?_);refine wpAny_bind (wpAny_field ho hd (x:=rawInt (i:Int)) rfl ?_);show wpAny _ _ (if (i:Int)<0 then _ else _) _ _ s;rw[if_neg Kf];show wpAny _ _ (specialOf (.ref l) "__getitem__" >>= _) _ _ s;refine wpAny_bind (wpAny_specialOf hl.typeIs slot_tuple_getitem.lookup ?_);rw[if_neg J9];refine wpAny_bind (wpAny_mkInt ?_);refine wpAny_bind (wpAny_attempt (getItem_tuple (j:=i) hl Kf hi (seqIndex_of Kf (by have:=(Array.getElem?_eq_some_iff.mp hx).1;omega)) hx ?_));dsimp only;refine wpAny_bind (wpAny_field ho hd (x:=rawInt (i:Int)) rfl ?_);dsimp only[rawInt];refine wpAny_bind (wpAny_setField ho hd (by simp) ?_);refine wpAny_pure ⟨x,rfl,wpAny_pure (hQ _ _ ?_ (Heap.SameBut.update ..))⟩;exact⟨_,Heap.get?_update_self _ ho (Obj.isFreed_of_fields (Obj.data_mapFields hd _)),(Obj.cls_mapFields ..).trans hc,by
  rw[Obj.data_mapFields hd];simp[rawInt]⟩
theorem DX {it l:Addr} {Q:Option Value→Shared→Prop} (hh:A.handled=none) (lP:s.heap.ow it l (-1))
  (hQ:∀h',Heap.ExtBut it s.heap h'→Q none { s with heap:=h' }):wpAny (model prog w) A (pyNext (.ref it)) Q E s:=by
 obtain⟨o,ho,hc,hd⟩:=id lP;unfold pyNext;refine wpAny_bind (wpAny_attempt (wpAny_callSpecial?_slot (name:=Str.ofString "__next__") lP.typeIs F.jb
  (wpAny_call_entry F.jb lP.typeIs F.qG ?_ (F.pz _))))
 unfold Builtin.«reversed.__next__»;refine wpAny_bind (wpAny_of_eq (a:=(Value.ref it,[])) rfl ?_)
 try dsimp only
 refine wpAny_bind (wpAny_field ho hd (x:=.ref l) rfl ?_);refine wpAny_bind (wpAny_field ho hd (x:=rawInt (-1)) rfl ?_);show wpAny _ _ (if (-1:Int)<0 then _ else _) _ _ s;rw[ao J9];refine wpAny_bind (wpAny_rule ?_);refine wpAny_bind ?_;show wpAny _ _ (setField (.ref it) 1 (rawInt (-1)) >>= fun _=>setField (.ref it) 0 .none) _ _ s;refine wpAny_bind (wpAny_setField ho hd (by simp) ?_);have ho1:=Heap.get?_update_self (Obj.mapFields (·.setIfInBounds 1 (rawInt (-1)))) ho (Obj.isFreed_of_fields (Obj.data_mapFields hd _));have hd1:=Obj.data_mapFields hd (·.setIfInBounds 1 (rawInt (-1)));refine wpAny_setField ho1 hd1 (by simp) ?_;refine wpAny_bind ?_;show wpAny _ _ (newExc (.type "StopIteration") [] >>= _) _ _ _;refine wpAny_bind ?_;simp only[newExc,newTuple];refine wpAny_bind (wpAny_newObj_type ?_ (by size_fits));refine wpAny_bind (m:=firstArgMember _ _) (wpAny_of_eq (a:=Value.none) (by first | rfl | (simp only[firstArgMember];rfl)) ?_);refine wpAny_newObj_type ?_ (by size_fits);simp only[raiseNew];refine wpAny_bind (wpAny_handled ?_)
 first | rw[show A.in1.handled=none from hh] | rw[hh]
 refine wpAny_bind (wpAny_pure (wpAny_throw ?_));refine wpAny_bind (wpAny_isInstance (T:="StopIteration") (b:=true) ⟨_,Heap.get?_push_size _ rfl,rfl⟩ isSubtype_stop ?_);refine wpAny_pure (hQ _ ?_);have x1:=(Heap.SameBut.update s.heap it (Obj.mapFields (·.setIfInBounds 1 (rawInt (-1))))).extBut;have x2:=(Heap.SameBut.update (s.heap.update it (Obj.mapFields (·.setIfInBounds 1 (rawInt (-1))))) it (Obj.mapFields (·.setIfInBounds 0 .none))).extBut;exact((Heap.ExtBut.push (fun c o hc e=>x2 c o hc (x1 c o hc e)) _).push _)
theorem Fo {it l:Addr} {i:Int} {Q:Value→Shared→Prop} (lP:s.heap.ow it l i) (h:Q (.ref it) s):wpAny (model prog w) A (pyIter (.ref it)) Q E s:=by
 refine wpAny_pyIter_slot lP.typeIs F.rP (wpAny_call_entry F.rP lP.typeIs F.zE ?_ (F.xZ _));show wpAny _ _ (ret (.ref it)) _ _ s;exact wpAny_pure ⟨_,rfl,"reversed",_,lP.typeIs,F.jb.lookup,h⟩
end
end PySem
namespace L2
open PySem PySem.Spec PyProof.Rows
def Itw (K:aP) (a:Addr) (n:Nat):It :=
 ⟨fun i H=>i<n∧∃(xs:List V) (x:V),j3 K H a xs∧xs[n-1-i]?=some x,fun i H x H'=>H'=H∧∀xs,j3 K H a xs→xs[n-1-i]?=some x,fun i _=>n≤i⟩
theorem Ol {P:Program} {w:World} {K:aP} {tg:Expr} (a it:Addr) (n:Nat) (hn:(n:Int)<2^63):Turn P w K tg (Itw K a n) [it] it (fun i h=>i≤n∧h.ow it a ((n:Int)-1-(i:Nat))) where
 mem:=by simp
 obj:=fun i h st b hb=>by
  have e:b=it:=by simpa using hb
  subst e;obtain⟨_,o,e,c,d⟩:=st;exact⟨o,e,fun v z=>by rw[d] at z;cases z⟩
 keep:=fun i h h' st k=>⟨st.1,st.2.at fun o e=>k it (by simp) o e⟩
 item:=by
  intro X hP hw hK hc i pins s σ H E I hf st hg;subst hP hw hK;obtain⟨T7,xs,x,hq,hx⟩:=hg;obtain⟨bq,rv,p,hz⟩:=I.tuple hq;obtain⟨u,hu,ru⟩:=rv.get hx;obtain⟨f0,f1,f2,f3,f4,f5⟩:=hf it (by simp);obtain⟨_,lP⟩:=st;have e1:(n:Int)-1-((i:Nat):Int)=((n-1-i:Nat):Int):=by omega
  rw[e1] at lP;refine B7 lP p Kf (x:=u) (by simpa using hu) fun h' t qP sb=>?_;have e2:((n-1-i:Nat):Int)-1=(n:Int)-1-((i+1:Nat):Int):=by omega
  rw[e2] at qP;have I1:Inv X pins σ H { s with heap:=h',toks:=t }:=I.turned (t':=t) (fun b o hb e=>(sb.2 b hb).trans e) f0 f1 f3 f4 f5;obtain⟨o,e,c,d⟩:=id qP;exact⟨u,rfl,AU (s:={ s with heap:=h',toks:=t }) e c d J9 ⟨x,H,I1,ru,⟨rfl,fun ys hy=>by rw[I.Kg hy hq];exact hx⟩,⟨T7,qP⟩,fun b hb=>(hf b hb).1⟩⟩
 done:=by
  intro X hP hw hK hc i pins s σ H E I hf st hg;subst hP hw hK;obtain⟨f0,f1,f2,f3,f4,f5⟩:=hf it (by simp);obtain⟨T7,lP⟩:=st;have T1:n≤i:=hg;have e1:(n:Int)-1-((i:Nat):Int)=-1:=by omega
  rw[e1] at lP;exact DX (I.ok.hd hc) lP fun h' eb=>⟨rfl,I.turned (t':=s.toks) (fun b o hb e=>eb b o hb e) f0 f1 f3 f4 f5⟩
 self:=fun A i s Q E st h=>Fo st.2 h
def Xj (K:aP) (ta:TA):TI:=fun σ H R=>ta σ H fun vs H1=>∃(a:Addr) (xs:List V),vs=[.ref a]∧j3 K H1 a xs∧R (Itw K a xs.length) H1
section
variable {X:Cx} {tg:Expr}
theorem QU {e:Expr} {ta:TA} {p pos:Pos} (hg:Gl X "reversed") (hm:X.mg "reversed"=none) (ha:PA X [e] ta) (hs:starEach [e] X.env=[(false,eval e X.env)]:=by rfl):PI X tg (.Call (.Name "reversed" p) [e] [] pos) (Xj X.K ta):=by
 intro pins s σ H R I h;refine Call_ (sE I hg hm zw (tR (dz (ha pos pins s σ H _ I h) fun us s1 ⟨vs,H1,I1,r1,q1⟩=>?_) hs rfl));obtain⟨a,xs,e,hq,q⟩:=q1;subst e;cases r1 with
 | cons r rr =>
  cases rr;cases r;obtain⟨bq,rv,p',hz⟩:=I1.tuple hq;have hl:=rv.length;have hn:=sI;have e1:((bq.toArray.size:Nat):Int)-1=(xs.length:Int)-1-((0:Nat):Int):=by simp only[cg];omega
  have Bb:((bq.toArray.size:Nat):Int)<2^63:=by simp only[cg];omega
  refine Oj p' Bb (Fo (l:=a) (i:=((bq.toArray.size:Nat):Int)-1) ⟨_,Heap.get?_push_size _ rfl,rfl,rfl⟩ ?_);refine Am (tk:=s1.toks+1+1) I1 _ (Ol a _ xs.length Kf) ⟨iA _,?_⟩ q;rw[←e1];exact⟨_,Heap.get?_push_size _ rfl,rfl,rfl⟩
end
end L2
end
section
namespace L2
open PySem PySem.Spec PyProof.Rows
def aae (z:Str) (ta tb:TE):TE:=fun σ H Q=>ta σ H fun x H1=>∃i,x=.int i∧i.natAbs.log2<1920∧(Str.ofString (toString i)).length≤sizeLine∧(Str.ofString (toString i)++z).length≤sizeLine∧tb σ H1 fun y H2=>∃j,y=.int j∧j.natAbs.log2<1920 ∧
 ((Str.ofString (toString i)++z++Str.ofString (toString j)).length≤sizeLine)∧Q (.str (Str.ofString (toString i)++z++Str.ofString (toString j))) H2
section
variable {X:Cx}
theorem T8 {e1 ec e2:Expr} {z:Str} {ta tb:TE} {p1 p3 pos:Pos} (ha:PE X e1 ta) (hc:PE X ec (tC (.str z))) (hb:PE X e2 tb) :
  PE X (.JoinedStr [.FormattedValue e1 (-1) none p1,ec,.FormattedValue e2 (-1) none p3] pos) (aae z ta tb):=by
 intro pins s σ H Q I h;refine JoinedStr_many (joinParts_cons (FormattedValue_plain (dz (ha pins s σ H _ I h) fun u s1 ⟨x,H1,I1,r1,q1⟩=>?_)));obtain⟨i,rfl,hi,l1,l2,q1⟩:=q1;obtain⟨t,rfl⟩:=r1;refine formatField_int_small hi ?_;have e0:Str.empty++Str.ofString (toString i)=Str.ofString (toString i):=by
  show Str.mk (#[]++(Str.ofString (toString i)).cps)=_;rw[Array.empty_append]
 dsimp only;rw[e0];refine⟨l1,joinParts_cons (dz (hc pins _ σ H1 _ (I1.tok _) (show tC (.str z) σ H1 (fun y H2=>y=.str z∧H2=H1) from ⟨rfl,rfl⟩)) fun u s2 ⟨y,H2,I2,r2,ey,eh⟩=>?_)⟩;subst ey eh;obtain⟨t2,rfl⟩:=r2;refine⟨l2,joinParts_cons (FormattedValue_plain (dz (hb pins s2 σ _ _ I2 q1) fun u s3 ⟨x3,H3,I3,r3,q3⟩=>?_))⟩;obtain⟨j,rfl,hj,l3,q3⟩:=q3;obtain⟨t3,rfl⟩:=r3;refine formatField_int_small hj ?_;exact⟨l3,joinParts_nil ⟨.str _,H3,I3.tok _,⟨_,rfl⟩,q3⟩ l3⟩
end
end L2
end
namespace G
open PySem PySem.Spec PyProof.Rows L2
abbrev bmE:List Value:=[.type "Exception",.type "BaseException",.type "object"]
structure T9 (K:aP) (mg:Str→Option Value) (C:Addr):Prop where
 bound:mg "NoNumber"=some (.ref C)
 exc:PySem.W.excIn K C bmE "Exception.__new__"=true
theorem MH {K:aP} {h:Heap} {mg:Str→Option Value} {C:Addr} (vD:K.In h) (c:T9 K mg C):OwnCls "NoNumber" C bmE "Exception.__new__" mg h:=by
 refine⟨c.bound,?_⟩;have q:=c.exc;unfold PySem.W.excIn at q;split at q
 case h_2=>cases q
 next od cl slots look =>
 split at q
 case h_2=>cases q
 next C1 rest s0 s1 s2 s3 nw s5 em es =>
 simp only[Bool.and_eq_true,beq_iff_eq,Bool.not_eq_true'] at q;obtain⟨⟨⟨⟨⟨q1,q2⟩,q3⟩,q4⟩,q5⟩,q6⟩:=q;obtain⟨c1,c2,c3,c4,c5,c6,c7,c8,c9,c10,c11⟩:=cl;dsimp only at em q3 q5 q6;subst q1 em q3;have e3:slots=#[s0,s1,s2,s3,some (.builtin nw),s5]:=by
  cases slots with
  | mk l=>exact a7 Array.mk es
 subst e3;rw[q2] at look;exact⟨rest,_,_,_,_,_,_,_,_,_,od,s0,s1,s2,s3,s5,_,vD _ _ look,.of_isNs (PySem.W.isNs_of_in vD q5),PySem.W.nsMap_none_of_in vD q5 q6,PySem.W.tail_of_in vD q4⟩
structure B8 (P:Program) (w:World) (C:Addr) (outer:List Env) (H:Hp) (s:Shared) (E:XK) (H':Hp) (B:Heap) (s':Shared):Prop where
 ok:jt P w H' B
 kb:∀b o,s.heap.get? b=some o→H b=none→b∉m8 outer→B.get? b=some o
 th:∀b o,s.heap.get? b=some o→b∉m8 outer→∃o',B.get? b=some o'
 un:Un (m8 outer) [] H H' s.heap s'.heap
 fr:s'.heap.FunFrames B outer
 os:s'.os=s.os
 bare:AllBare s'.gens
 ev:E (.ref C) none H'
def B9 (P:Program) (w:World) (C:Addr):vK:=fun outer H s E e s' =>
 ∃(H':Hp) (a:Addr) (a0:Value) (B:Heap),e=.ref a∧Heap.FlyingW B outer a (.ref C) a0 s'.heap∧B8 P w C outer H s E H' B s'
section
variable {P:Program} {w:World} {C:Addr} {outer l:List Env} {H H' H1:Hp} {s s' s1:Shared} {E:XK} {B h':Heap}
theorem B8.Xk (F:B8 P w C l H s E H' B s') (st:B.StaysIn h') (sm:s'.heap.UpToSlots h'):Un (m8 l) [] H H' s.heap h':=by
 have up:∀b∈m8 l,∀o,s'.heap.get? b=some o→∃sl,h'.get? b=some { o with slots:=sl }:=fun b hb o e=>by
  obtain⟨_,o',e',d⟩:=F.fr.mem hb;rw[e] at e';cases e';exact sm b o e d
 refine⟨fun b o e n hb _=>st b o (F.kb b o e n hb),fun b o e n hb hx=>?_,F.un.free,fun b o e hx=>?_,F.un.vA,F.un.ud,F.un.vB⟩
 ·obtain⟨sl,e1⟩:=F.un.slot b o e n hb hx;obtain⟨sl2,e2⟩:=up b hb _ e1;exact⟨sl2,e2⟩
 ·by_cases hb:b∈m8 l
  ·obtain⟨o1,e1⟩:=F.un.there b o e hx;obtain⟨sl,e2⟩:=up b hb _ e1;exact⟨_,e2⟩
  ·obtain⟨o1,e1⟩:=F.th b o e hb;exact⟨o1,st b o1 e1⟩
end
section
variable {P:Program} {w:World} {K:aP} {mg:Str→Option Value} {base:Heap} {N:List Str} {qual:Str} {scope:Scope} {f:Addr} {cd:Value} {A:Around} {outer:List Env} {s0:Shared} {H0:Hp} {E:XK} {C:Addr}
abbrev zF (C:Addr) (P:Program) (w:World) (K:aP) (mg:Str→Option Value) (base:Heap) (N:List Str) (qual:Str) (scope:Scope) (f:Addr) (cd:Value) (A:Around) (outer:List Env) (s0:Shared) (H0:Hp) (E:XK):Cx:=vN (B9 P w C) P w K mg base N qual scope f cd A outer s0 H0 E
theorem B8.out {pins:List (Addr×Obj)} {σ:L2.St} {H1 H':Hp} {s1 s':Shared} {B h':Heap} {a:Addr} {a0:Value} (I:Inv (zF C P w K mg base N qual scope f cd A outer s0 H0 E) pins σ H1 s1)
  (F:B8 P w C (zF C P w K mg base N qual scope f cd A outer s0 H0 E).stack H1 s1 E H' B s') (fl:Heap.FlyingW B outer a (.ref C) a0 h') (sm:s'.heap.UpToSlots h'):B8 P w C outer H0 s0 E H' B { s' with heap:=h' }:=by
 have I2:=Inv.FN (s':={ s' with heap:=h' }) (ch:=[]) I F.os (F.Xk fl.1 sm) (F.ok.kept fl.1) F.bare (fun b z=>nomatch z);have nf:∀b o,s0.heap.get? b=some o→b∉m8 outer→b∉m8 (zF C P w K mg base N qual scope f cd A outer s0 H0 E).stack:=fun b o e hb z =>
  (cO.mp (I.Ag b z)).elim (dI (b5 (Heap.lt_size e) I.ok.above)) hb
 refine⟨F.ok,fun b o e n hb=>?_,fun b o e hb=>?_,I2.base,fl.2.2.1,I2.os,F.bare,F.ev⟩
 ·exact F.kb b o (I.base.keep b o e n hb (fun z=>nomatch z)) (I.base.free b o e n (fun z=>nomatch z)) (nf b o e hb)
 ·obtain⟨o1,e1⟩:=I.base.there b o e (fun z=>nomatch z);exact F.th b o1 e1 (nf b o e hb)
theorem QV:Passes (B9 P w C) (zF C P w K mg base N qual scope f cd A outer s0 H0 E) E:=by
 rintro pins σ H1 s1 e s' I ⟨H',a,a0,B,rfl,fl,F⟩;refine wpAny_leaves_onW I.ok.frames rfl fl fun h' fl' sm=>?_;exact⟨H',a,a0,B,rfl,fl',F.out I fl' sm⟩
theorem qp {np qD pos:Pos} (c:T9 K mg C) (hg:Gl (zF C P w K mg base N qual scope f cd A outer s0 H0 E) "NoNumber") :
  PS (zF C P w K mg base N qual scope f cd A outer s0 H0 E) (.Raise (some (.Call (.Name "NoNumber" np) [] [] qD)) none pos) (fun _ _ H1=>E (.ref C) none H1):=by
 intro pins s σ H1 D I h;obtain⟨t1,t2,t3,t4,t5,t6,t7,t8,t9,t10,t11,t12,t13,t14,t15,TZ,t17,hC,hN,hni,T⟩:=((MH I.ok.mod.vD c).keeps I.bk).obj;refine wpAny_Raise_call_subT (C:=C) (nm:=t3) (q:=t4) (N:=t2) (bs:=t5) (bm:=t1) (hdct:=t6) (sn:=t7) (sub:=t8) (ab:=t9) (col:=t10) (dd:=t11) (k0:=t12) (k1:=t13) (k2:=t14) (k3:=t15) (k5:=TZ)
  PySem.F.excBase_Exception (mN:=t17) (T.hasType PySem.F.excBase_Exception.hasBase) (I.ok.hd rfl) rfl hni (j9 I hg c.bound ⟨rfl,evalArgs_empty ⟨rfl,iA _,hC,hN,T,fun h' e hm=>?_⟩⟩)
 have T7:∀env∈(zF C P w K mg base N qual scope f cd A outer s0 H0 E).stack,∀b,env.frame=some b→b∈m8 (zF C P w K mg base N qual scope f cd A outer s0 H0 E).stack:=fun env he b hb=>Ep.mpr ⟨env,he,hb⟩;have ff:=PySem.W.funFrames_hide I.stack T7;refine wpAny_leaves_madeW (base:=PySem.W.hideAll s.heap (m8 (zF C P w K mg base N qual scope f cd A outer s0 H0 E).stack)) I.ok.frames rfl (fun b o q=>PySem.W.of_hideAll _ q) ff hm fun h2 t fl _ _ sm=>?_;have F0:B8 P w C (zF C P w K mg base N qual scope f cd A outer s0 H0 E).stack H1 s E H1 (PySem.W.hideAll s.heap (m8 (zF C P w K mg base N qual scope f cd A outer s0 H0 E).stack)) { s with heap:=h' }:=by
  refine⟨fun a o e=>?_,fun b o e _ hb=>PySem.W.hideAll_get _ e hb,fun b o e hb=>⟨o,PySem.W.hideAll_get _ e hb⟩,Un.kept hm.keeps,ff.of_keeps fun b o e _=>⟨o,hm.keeps b o e,rfl⟩,rfl,I.bare,h⟩;refine(I.dr a o e).yB (fun b u hb q=>PySem.W.hideAll_get _ q fun z=>?_) (fun _ q=>q) (fun _ _ q=>q);have n:=I.AM b z;rcases hb with rfl | hb
  ·rw[e] at n;cases n
  ·rw[hb] at n;cases n
 exact⟨H1,e,.ref t,_,rfl,fl,F0.out I fl sm⟩
theorem Xl {k:Nat} {f:Addr} {fd:FuncData} {ps:List Str} {sp QQ:Sp} (F:jy P w K mg base (B9 P w C) k f fd ps sp)
  (h:∀vs H Q E,QQ vs H Q E→sp vs H (fun v H'=>aI H H'∧Q v H) (fun v d H'=>aI H H'∧E v d H)):jy P w K mg base (B9 P w C) k f fd ps QQ:=by
 refine⟨fun vs H Q E q=>F.len _ _ _ _ (h _ _ _ _ q),fun A outer s H args us vs Q E hr he hb hv hs=>?_⟩;refine codeAny_mono (F.run A outer s H args us vs _ _ hr he hb hv (h _ _ _ _ hs)) fun r s' hq=>?_;cases r with
 | error e =>
  obtain⟨H',a,a0,B,rfl,fl,Fl⟩:=hq;exact⟨H,a,a0,B,rfl,fl,restrict he.dr Fl.ev.1 Fl.ok,Fl.kb,Fl.th,⟨Fl.un.keep,Fl.un.slot,fun _ _ _ n _=>n,Fl.un.there,fun _ _ e=>e,fun _ _ _ e=>e,fun b ps e=>⟨#[],by rw[e];simp⟩⟩,Fl.fr,Fl.os,Fl.bare,Fl.ev.2⟩
 | ok fl =>
  cases fl with
  | ret u =>
   obtain⟨v,H',os,bare,un,dr,rv,sm,q⟩:=hq;exact⟨v,H,os,bare,⟨un.keep,un.slot,fun _ _ _ n _=>n,un.there,fun _ _ e=>e,fun _ _ _ e=>e,fun b ps e=>⟨#[],by rw[e];simp⟩⟩,restrict he.dr sm dr,rv,q⟩
  | next=>exact hq
  | brk=>exact hq
  | cont=>exact hq
def Fp (C:Addr) (P:Program) (w:World) (K:aP) (mg:Str→Option Value) (base:Heap) (x:Str) (ps:List Str) (k:Nat) (sp:Sp):Prop :=
 ∃f fd,jy P w K mg base (B9 P w C) k f fd ps sp∧mg x=some (.ref f)∧PySem.W.keepIn K (.ref f)=true∧Binds K fd ps []
theorem QW {x:Str} {st:Stmt} {ps N:List Str} {k:Nat} {sp:Sp} (d:Df K mg x st ps) (S:aD N ps (ay st)) (len:∀vs H Q E,sp vs H Q E→vs.length=ps.length)
  (pU:∀(f:Addr) (bw:Value) (A:Around) (outer:List Env) (s:Shared) (H:Hp) (vs:List V) (Q:L2.VK) (E:XK),fj k (A.deeper (envOfC x (ay st) s.heap.objs.size f bw))→sp vs H Q E →
   ∃t,qN (zF C P w K mg base N x (ay st) f bw A outer s H (fun v d H'=>aI H H'∧E v d H)) (gN st) t∧t { nx:=fun _ H'=>aI H H'∧Q .fU H,rt:=fun v H'=>aI H H'∧Q v H } (start N vs) H):Fp C P w K mg base x ps (k+1) sp:=by
 obtain⟨f,fd,F,hm,hb⟩:=d;obtain⟨oc,od,kV,doc,pm,an,bw,ct,ni,rfl,lk,AQ⟩:=F.ex;refine⟨f,_,Xl (sp:=fun vs H Q E=>∃(Q':L2.VK) (E':XK),sp vs H Q' E'∧Q=(fun v H'=>aI H H'∧Q' v H)∧E=fun v d H'=>aI H H'∧E' v d H) (PL lk AQ S (fun vs H Q E ⟨Q',E',h,_⟩=>len vs H Q' E' h) fun A outer s H vs Q E hr h=>?_)
  fun vs H Q E h=>⟨Q,E,h,rfl,rfl⟩,hm,F.kp,hb⟩
 obtain⟨Q',E',h,rfl,rfl⟩:=h;exact pU f bw A outer s H vs Q' E' hr h
end
section
variable {X:Cx} {x:Str} {ps:List Str} {j k:Nat} {sp:Sp} {p pos:Pos} {e:Expr} {es:List Expr} {t:TA} {C:Addr} {E:XK}
theorem Ue (h:Fp C X.prog X.w X.K X.mg X.base x ps j sp) (hr:fj k X.A) (hk:j≤k) (hg:Gl X x) (hx:Passes (B9 X.prog X.w C) X E) (ha:PA X (e::es) t) (pT:(x==("__debug__":Str))=false:=by decide)
  (he:starEach (e::es) X.env=(false,eval e X.env)::starEach es X.env:=by rfl) (gG:(backTo pos (starEach es X.env)).any (·.1)=false:=by rfl) :
  PE X (.Call (.Name x p) (e::es) [] pos) (rh sp [] E t):=by
 obtain⟨f,fd,F,hm,kp,hb⟩:=h;exact HI F (hr.mono hk) hg hm kp hb .nil hx ha pT he gG
def aar (tb:XK→TS) (th:TS):TS:=fun D σ H=>tb (fun _ _ H'=>th D (σ.map fun _=>none) H') D σ H
abbrev Cx.at (X:Cx) (pn:List (Addr×Obj)) (W:Value→Shared→Prop):Cx:={ X with pn:=pn,xe:=W }
abbrev Cx.held (X:Cx) (e:Value):Cx:={ X with A:=X.A.mark (some e),calm:=false,xe:=fun _ _=>False }
theorem aas {pn QX:List (Addr×Obj)} {W W':Value→Shared→Prop} (ok:(Cx.at X pn W).Ok):(Cx.at X QX W').Ok :=
 ⟨ok.mod,ok.kind,ok.glob,ok.blt,ok.above,ok.inj,ok.has,ok.Hm,ok.hd,ok.frames,ok.Kd,ok.AL,ok.bs,ok.zp,ok.yC,ok.yD,ok.mn,ok.DJ⟩
theorem Ug {e:Value} (ok:X.Ok):(Cx.held X e).Ok :=
 ⟨ok.mod,ok.kind,ok.glob,ok.blt,ok.above,ok.inj,ok.has,ok.Hm,(fun z=>by cases z),ok.frames,ok.Kd,ok.AL,ok.bs,ok.zp,ok.yC,ok.yD,ok.mn,ok.DJ⟩
theorem Oo {e:Value} (hd:X.calm=true→X.A.handled=none) (ok:(Cx.held X e).Ok):X.Ok :=
 ⟨ok.mod,ok.kind,ok.glob,ok.blt,ok.above,ok.inj,ok.has,ok.Hm,hd,ok.frames,ok.Kd,ok.AL,ok.bs,ok.zp,ok.yC,ok.yD,ok.mn,ok.DJ⟩
variable {pins pn QX jI:List (Addr×Obj)} {σ:L2.St} {H:Hp} {s:Shared} {W W':Value→Shared→Prop}
theorem GA (I:Inv (Cx.at X pn W) pins σ H s) (h:∀q∈QX++jI,q∈pn++pins):Inv (Cx.at X QX W') jI σ H s :=
 ⟨aas I.ok,I.os,I.bare,I.base,I.loc,I.cell,I.free,I.j8,fun q hq=>I.pin q (h q hq),I.dr,I.len⟩
theorem Ja {v:Value} (I:Inv X pins σ H s):Inv (Cx.held X v) pins σ H s:=⟨Ug I.ok,I.os,I.bare,I.base,I.loc,I.cell,I.free,I.j8,I.pin,I.dr,I.len⟩
theorem Lh {v:Value} (hd:X.calm=true→X.A.handled=none) (I:Inv (Cx.held X v) pins σ H s):Inv X pins σ H s:=⟨Oo hd I.ok,I.os,I.bare,I.base,I.loc,I.cell,I.free,I.j8,I.pin,I.dr,I.len⟩
theorem QY {Y:Cx} {D:Ends} {fl:Flow} (h:SP X pins D fl s) (hi:∀σ H,Inv X pins σ H s→Inv Y jI σ H s):SP Y jI D fl s:=by
 cases fl with
 | next=>obtain⟨σ,H,I,q⟩:=h;exact⟨σ,H,hi _ _ I,q⟩
 | brk=>obtain⟨σ,H,I,q⟩:=h;exact⟨σ,H,hi _ _ I,q⟩
 | cont=>obtain⟨σ,H,I,q⟩:=h;exact⟨σ,H,hi _ _ I,q⟩
 | ret u=>obtain⟨v,σ,H,I,r,q⟩:=h;exact⟨v,σ,H,hi _ _ I,r,q⟩
theorem QZ {np hp tp:Pos} {body:List Stmt} {b0:Stmt} {Q0:List Stmt} {tb:XK→TS} {th:TS} (c:T9 X.K X.mg C) (hg:Gl X "NoNumber") (qO:X.stack=X.env::X.outer) (hf:X.env.frame=some X.env.locals)
  (hb:∀(pn:List (Addr×Obj)) (W:Value→Shared→Prop) (E:XK),Passes (B9 X.prog X.w C) (Cx.at X pn W) E→qN (Cx.at X pn W) body (tb E)) (hh:∀v:Value,qN (Cx.held X v) (b0::Q0) th) :
  PS X.vE (.Try body [.ExceptHandler (some (.Name "NoNumber" np)) none (b0::Q0) hp] [] [] tp) (aar tb th):=by
 intro pins s σ H D I hw;refine wpAny_Try_except ?_;have hps:Passes (B9 X.prog X.w C) (Cx.at X (X.pn++pins) fun e s'=>∃(jI:List (Addr×Obj)) (σ':L2.St) (H1:Hp) (s1:Shared),Inv (Cx.at X (X.pn++pins) fun _ _=>False) jI σ' H1 s1∧B9 X.prog X.w C X.stack H1 s1 (fun _ _ H'=>th D (σ.map fun _=>none) H') e s')
   (fun _ _ H'=>th D (σ.map fun _=>none) H'):=fun jI σ' H1 s1 e s' I' q=>⟨jI,σ',H1,s1,GA I' fun q hq=>hq,q⟩
 have I1:Inv (Cx.at X (X.pn++pins) fun e s'=>∃(jI:List (Addr×Obj)) (σ':L2.St) (H1:Hp) (s1:Shared),Inv (Cx.at X (X.pn++pins) fun _ _=>False) jI σ' H1 s1∧B9 X.prog X.w C X.stack H1 s1 (fun _ _ H'=>th D (σ.map fun _=>none) H') e s') [] σ H s :=
  GA (pn:=X.pn) (pins:=pins) (W:=fun _ _=>False) I fun q hq=>by simpa using hq
 refine wpAny_mono (hb _ _ _ hps [] s σ H D I1 hw) (fun fl s1 hs=>?_) fun e s1 hs=>?_
 ·have NV:SP X.vE pins D fl s1:=QY hs fun σ H I=>GA (QX:=X.pn) (jI:=pins) (W':=fun _ _=>False) I fun q hq=>by simpa using hq
  cases fl with
  | next=>exact wpAny_execs_nil NV
  | brk=>exact NV
  | cont=>exact NV
  | ret u=>exact NV
 ·obtain⟨jI,σ',H1,NZ,I',H',a,a0,B,rfl,fl,F⟩:=hs;have J:Inv X.vE pins (σ.map fun _=>none) H1 NZ:=by
   have J0:Inv (Cx.at X X.pn fun _ _=>False) pins σ' H1 NZ:=GA I' fun q hq=>yN _ hq;refine J0.weak (by rw[aF];exact I.len.trans I'.len.symm) fun i v e=>?_;rw[aT] at e;cases h:σ[i]? with
   | none=>rw[h] at e;cases e
   | some o=>rw[h] at e;cases e
  rw[qO] at fl;have fs:X.A.frames=some (X.env::X.outer):=by rw[←qO];exact I.ok.frames
  refine wpAny_looks_onW fs hf fl fun h4 Xm sm4=>?_;refine wpAny_landsW Xm fun h5 Uh sm5=>?_;have VR:=sm4.trans sm5;have J5:Inv X.vE pins (σ.map fun _=>none) H' { s1 with heap:=h5 }:=Inv.FN (s':={ s1 with heap:=h5 }) (ch:=[]) J F.os (F.Xk Uh.1 VR) (F.ok.kept Uh.1) F.bare (fun b z=>nomatch z);obtain⟨ob,hob,aat⟩:=Uh.there;refine wpAny_handleBy_cons (codeAny_handlers_test (j9 (X:=Cx.held X (.ref a)) (Ja (X:=X.vE) J5) hg c.bound ?_)) (by intro q;cases q);obtain⟨t1,t2,t3,t4,t5,t6,t7,t8,t9,t10,t11,t12,t13,t14,t15,TZ,t17,hC,hN,hni,T⟩:=((MH J5.ok.mod.vD c).keeps J5.bk).obj;refine wpAny_excMatches_sub_self hC hob aat (T.hasType PySem.F.excBase_Exception.hasBase) (codeAny_handlers_suite ?_);refine lands_againW Uh fun h6 fl6 sm6=>?_;have J6:Inv X.vE pins (σ.map fun _=>none) H' { s1 with heap:=h6 }:=Inv.FN (s':={ s1 with heap:=h6 }) (ch:=[]) J F.os (F.Xk fl6.1 (VR.trans sm6)) (F.ok.kept fl6.1) F.bare (fun b z=>nomatch z);refine wpAny_mono (hh (.ref a) pins _ _ H' D (Ja (X:=X.vE) J6) F.ev) (fun fl2 s2 Nl=>?_) fun _ _ z=>False.elim z;exact QY Nl fun σ H I2=>Lh (X:=X.vE) I.ok.hd I2
end
def aav (t:TE):TE:=fun σ H Q=>∃(v:V) (R:Hp→Prop),t σ H (fun x H1=>x=v∧R H1)∧∀H1,R H1→Q v H1
def Xn (t:TE):TE:=fun σ H Q=>∃(R:Addr→Hp→Prop),t σ H (fun x H1=>∃l,x=.ref l∧R l H1)∧∀l H1,R l H1→Q (.ref l) H1
def Xo (t:TT):TT:=fun σ H Q=>∃(c:Bool) (R:Hp→Prop),t σ H (fun b H1=>b=c∧R H1)∧∀H1,R H1→Q c H1
section
variable {X:Cx} {e:Expr}
theorem MJ {t:TE} (h:PE X e t):PE X e (aav t):=by
 intro pins s σ H Q I hw;obtain⟨v,R,h1,q⟩:=hw;refine dz (h pins s σ H _ I h1) fun b s1 ⟨x,H1,I1,rx,e1,e2⟩=>?_;subst e1;exact⟨_,_,I1,rx,q _ e2⟩
theorem wG {t:TE} (h:PE X e t):PE X e (Xn t):=by
 intro pins s σ H Q I hw;obtain⟨R,h1,q⟩:=hw;refine dz (h pins s σ H _ I h1) fun b s1 ⟨x,H1,I1,rx,l,e1,e2⟩=>?_;subst e1;exact⟨_,_,I1,rx,q _ _ e2⟩
theorem Ui {t:TT} (h:PT X e t):PT X e (Xo t):=by
 intro pins s σ H Q I hw;obtain⟨c,R,h1,q⟩:=hw;refine dz (h pins s σ H _ I h1) fun b s1 ⟨H1,I1,e1,e2⟩=>?_;subst e1;exact⟨_,I1,q _ e2⟩
end
theorem Q1 {K:aP} {H:Hp} {a:Addr} {xs ys:List V} (h:bU K H a xs) (e:xs=ys):bU K H a ys:=by rw[←e];exact h
def MK (xs:List V):Prop:=∃m:List Int,xs=m.map V.int
theorem rR {K:aP} {H:Hp}:∀m:List Int,uI K H (m.map V.int) (m.map PyData.int)
 | []=>.nil
 | i::m=>.cons (.int i) (rR m)
theorem Fq:∀m n:List Int,PyData.eqvAll (m.map PyData.int) (n.map PyData.int)=decide (m=n)
 | [],[]=>rfl
 | [],_::_=>rfl
 | _::_,[]=>rfl
 | i::m,j::n=>by
  show (PyData.eqv (.int i) (.int j)&&PyData.eqvAll (m.map PyData.int) (n.map PyData.int))=_;rw[Fq m n];show (i==j&&decide (m=n))=decide (i::m=j::n);by_cases h:i=j<;>by_cases h2:m=n<;>simp[h,h2]
theorem zc:∀{m n:List Int},m.map V.int=n.map V.int→m=n
 | [],[],_=>rfl
 | i::m,j::n,h=>by
  simp only[fT,List.cons.injEq,V.int.injEq] at h;rw[h.1,zc h.2]
 | [],_::_,h=>by cases h
 | _::_,[],h=>by cases h
theorem Fs:∀m:List Int,PyData.canLayAll0 (m.map PyData.int)=true
 | []=>by simp[PyData.canLayAll0]
 | i::m=>by rw[fT,PyData.canLayAll0,Fs m,PyData.canLay0];rfl
theorem zd:∀m:List Int,PyData.depthAll (m.map PyData.int)=0
 | []=>by simp[PyData.depthAll]
 | i::m=>by rw[fT,PyData.depthAll,zd m,PyData.depth];rfl
theorem shaped_ints (m:List Int):SeqAt.shaped (.list (m.map PyData.int))=true:=by
 unfold SeqAt.shaped;rw[PyData.canLay0,PyData.depth,Fs,zd];rfl
def wH (xs ys:List V):Bool:=decide (xs=ys)
theorem ft {xs ys:List V}:wH xs ys=true↔xs=ys:=bj
def aaw (K:aP):R2:=fun x y H Q=>∃a b xs ys,x=.ref a∧y=.ref b∧bU K H a xs∧bU K H b ys∧MK xs∧MK ys∧Q (.bl (wH xs ys)) H
theorem dg (l:List Nat):MK (l.map fun (c:Nat)=>V.int c):=⟨l.map fun (c:Nat)=>(c:Int),by rw[js];rfl⟩
theorem dN (l:List UInt8):MK (l.map fun (c:UInt8)=>V.int (c.toNat:Nat)):=⟨l.map fun (c:UInt8)=>((c.toNat:Nat):Int),by rw[js];rfl⟩
section
variable {X:Cx}
theorem jG (hu:X.A.units+64<cLine):i7 X (compareOp .Eq) (aaw X.K):=B4 (S6 hu) fun x y H Q ⟨a,b,xs,ys,ex,ey,ha,hb,⟨m,em⟩,⟨n,en⟩,q⟩=>by
 subst ex ey em en;refine⟨_,_,.lst ha (rR m),.lst hb (rR n),shaped_ints m,shaped_ints n,?_⟩;have:PyData.eqv (.list (m.map PyData.int)) (.list (n.map PyData.int))=wH (m.map V.int) (n.map V.int):=by
  show PyData.eqvAll _ _=_;rw[Fq];unfold wH;exact tM.mpr ⟨fun h=>by rw[h],zc⟩
 rw[this];exact q
end
structure Tx (K:aP) (mg:Str→Option Value) (C:Addr):Prop where
 ex:QT K C
 DOUBLE:CI mg "DOUBLE" (3)
 kS:CI mg "LAST_KIND" (3)
 e7:CI mg "NEAREST" (0)
 Ft:CI mg "DOWN" (1)
 UP:CI mg "UP" (2)
 wI:CI mg "TOWARD_ZERO" (3)
 DY:CI mg "NEAREST_AWAY" (4)
 g7:CI mg "LAST_MODE" (4)
 zG:CI mg "LAST_OPERATION" (10)
 Oq:CI mg "LAST_HOW" (1)
 Li:CI mg "UNORDERED" (2)
 Ca:CI mg "LAST_FUNCTION" (5)
 aax:CI mg "ROOT" (4)
 Q2:CI mg "POWER" (5)
 hJ:CI mg "ONE" (4607182418800017408)
 Cb:CI mg "TWO_TO_THE_52" (4841369599423283200)
 Q3:CI mg "ABOVE_F" (4609047870845172685)
 zH:CI mg "LEAST_EXPONENT" (-1200)
 va:CI mg "GREATEST_EXPONENT" (1100)
 DZ:CI mg "COSINE_FIRST" (4607182418800017408)
 Jb:CI mg "LAST_ORDER" (4)
 wJ:CI mg "EXACT_ORDER" (4)
 D0:CI mg "LONGEST_TEXT" (60)
 qU:CI mg "MOST_EXPONENT_DIGITS" (3)
 ze:CI mg "DIGIT_ZERO" (48)
 Jc:CI mg "DIGIT_NINE" (57)
 aay:CI mg "PLUS" (43)
 Lj:CI mg "MINUS" (45)
 Xp:CI mg "POINT" (46)
 Xq:CI mg "BIG_E" (69)
 Q4:CI mg "SMALL_E" (101)
 Jd:CI mg "DONE" (0)
 gS:CI mg "REFUSED" (-1)
 Lk:CI mg "NO_NUMBER" (-2)
 zI:CI mg "GREATEST_SCALE" (5000)
 D4:CI mg "MOST_NUMBERS" (64)
 Ll:CI mg "MOST_BITS" (48)
 Lm:CI mg "LAST_SIGN" (1)
 kq:CT K mg "EXPONENT_BITS" [.int 5,.int 8,.int 8,.int 11]
 e8:CT K mg "FRACTION_BITS" [.int 10,.int 7,.int 23,.int 52]
 EXP2:CT K mg "EXP2" [.int 4607182418800017408,.int 4604418534313441775,.int 4597823092348339599,.int 4588159806095007936,.int 4576698095722188407,.int 4563791841266919217,.int 4549814923676796807,.int 4535121250368401607,.int 4518847663812495396,.int 4502282772472522692,.int 4485106894419758794,.int 4467162552695110437,.int 4448496323602950534,.int 4429314530977698041]
 LOG2:CT K mg "LOG2" [.int 4613679739648574206,.int 4606838314010018813,.int 4603373076224121854,.int 4601097129459113689,.int 4599447016227734185,.int 4598396944171401773,.int 4597164722873374560,.int 4596098495862329342,.int 4595283145795059469,.int 4594639448373530622,.int 4594118359984673937,.int 4593687895663444501]
 SINE:CT K mg "SINE" [.int 4618760256179416344,.int 13854387181501922899,.int 4635442875846732514,.int 13858470148813536646,.int 4631116052258809730,.int 13848059183245068063,.int 4615784187318865251,.int 13828015527061444420,.int 4592174923320472409]
 Cc:CT K mg "COSINE_OTHERS" [.int 13849621347874784734,.int 4634270120541903556,.int 13859085942699900922,.int 4633675496823044795,.int 13851503584549554828,.int 4620584609291582659,.int 13833771785395049103,.int 4598751787815720949]
 Xr:CT K mg "LANES" [.int 1,.int 2,.int 4,.int 8]
 Cd:mg "abs"=none
 Xs:mg "all"=none
 qr:mg "enumerate"=none
 iq:mg "len"=none
 GC:mg "max"=none
 Ln:mg "min"=none
 Xu:mg "ord"=none
 wK:mg "range"=none
 Je:mg "reversed"=none
 Xv:mg "sum"=none
 Q5:mg "zip"=none
section
variable {K:aP} {h:Heap} {mg:Str→Option Value}
theorem dU {n:Str} {i:Int} (X:K.In h) (G:h.Ns mainGlobals mg) (r:WB K (n,i)):CI mg n i:=let ⟨t,e⟩:=r;⟨t,PySem.W.mg_of X G e⟩
theorem Lo {a:Addr} {xs:List V} (r:zy K a xs):∀H,j3 K H a xs:=fun _=>.inr r
theorem vb {n:Str} {l:List Int} (X:K.In h) (G:h.Ns mainGlobals mg) (r:WC K (n,l)):CT K mg n (l.map V.int):=let ⟨a,e,t⟩:=r;⟨a,PySem.W.mg_of X G e,Lo t⟩
theorem mP {x:Str} (X:K.In h) (G:h.Ns mainGlobals mg) (r:Zw K x):mg x=none:=PySem.W.mg_none_of X G r
theorem Ce {C:Addr} {m q:Str} {i j:Nat} (r:zA K C m q i j):∃f fd,EL K C m f∧xO K m q (inClass (top i) j) f fd:=by
 obtain⟨f,oc,od,an,ni,kV,doc,pm,bw,ct,a,i,l,c,k⟩:=r;exact⟨f,_,⟨a,i,k⟩,Ao l c k⟩
end
structure Ev (K:aP) (mg:Str→Option Value) (C C2 C3:Addr):Prop where
 h:∃h:Heap,K.In h∧h.Ns mainGlobals mg
 r:Raw K
 T:Tx K mg C
 ex:Qa K "Exact" C∧zA K C "__init__" "Exact.__init__" 32 0
 ac:Qa K "Accumulator" C2∧f9 K C2 "total"∧zA K C2 "__init__" "Accumulator.__init__" 105 0∧zA K C2 "make_empty" "Accumulator.make_empty" 105 1∧zA K C2 "take" "Accumulator.take" 105 2∧zA K C2 "rounded_once" "Accumulator.rounded_once" 105 3
 no:T9 K mg C3
section
variable {K:aP} {mg:Str→Option Value} {C C2 C3:Addr}
theorem Ev.df (ak:Ev K mg C C2 C3) (i:Nat) {n:Str} {j:Nat} {ps:List Str} (hi:KI[i]?=some (n,j):=by rfl)
  (b:∀(kV doc pm:Value) (an:Option Addr) (bw ct:Value) (us:List Value),us.length=ps.length→bindArgs (PySem.W.fnOf n n (jz (top j)) (gN (top j)) (ay (top j)) .none kV doc pm an bw ct) ⟨us,[]⟩=pure (ps.zip us):=by
   first | exact fun _ _ _ _ _ _=>BF.zD fun _ _=>rfl | exact fun _ _ _ _ _ _=>BF.zC fun _=>rfl | exact fun _ _ _ _ _ _=>BF.BX fun _ _ _=>rfl | exact fun _ _ _ _ _ _=>BF.W7 fun _ _ _ _=>rfl | exact fun _ _ _ _ _ _=>BF.Z9 fun _ _ _ _ _=>rfl | exact fun _ _ _ _ _ _=>BF.kl6 fun _ _ _ _ _ _=>rfl | exact fun _ _ _ _ _ _=>BF.Oc rfl):Df K mg n (top j) ps:=by
 obtain⟨h,X,G⟩:=ak.h;obtain⟨f,oc,od,an,ni,kV,doc,pm,bw,ct,a,l,c,k⟩:=ak.r.defs i _ hi;exact⟨f,_,Ao l c k,PySem.W.mg_of X G a,(Ao l c k).binds b⟩
end
theorem bz {N P:List Str} {sc:Scope} (a:sc.kind=.function:=by rfl) (b:sc.isCoroutine=false:=by rfl) (c:sc.isGenerator=false:=by rfl) (d:N.Nodup:=by decide +kernel) (e:N.take P.length=P:=by rfl)
 (f:∀x∈P,sc.names.lookup x=some .local∨sc.names.lookup x=some .cell:=by decide +kernel) (g:∀y∈sc.names,y.2≠.free:=by decide +kernel):aD N P sc:=⟨a,b,c,d,e,f,g⟩
section
variable {X:Cx} {x:Str} {ps:List Str} {i j k:Nat} {sp:Sp} {p pos pos':Pos} {e a b:Expr} {es:List Expr} {t:TA} {ta tb te:TE} {C:Addr} {E:XK} {op:CmpOp} {r:R2}
theorem pf (h:MG X x ps j sp) (hr:fj k X.A) (ha:PA X (e::es) t) (hk:j≤k:=by decide) (hg:Gl X x:=by exact rfl) (pT:(x==("__debug__":Str))=false:=by decide)
 (he:starEach (e::es) X.env=(false,eval e X.env)::starEach es X.env:=by rfl) (gG:(backTo pos (starEach es X.env)).any (·.1)=false:=by rfl):PE X (.Call (.Name x p) (e::es) [] pos) (rh sp [] E0 t):=Xf h hr hk hg ha pT he gG
theorem Q6 (h:MG X x ps j sp) (hr:fj k X.A) (hk:j≤k:=by decide) (hg:Gl X x:=by exact rfl) (pT:(x==("__debug__":Str))=false:=by decide):PE X (.Call (.Name x p) [] [] pos) (rh sp [] E0 EM):=T6 h hr hk hg pT
theorem Xw (h:Fp C X.prog X.w X.K X.mg X.base x ps j sp) (hr:fj k X.A) (hx:Passes (B9 X.prog X.w C) X E) (ha:PA X (e::es) t) (hk:j≤k:=by decide) (hg:Gl X x:=by exact rfl) (pT:(x==("__debug__":Str))=false:=by decide)
 (he:starEach (e::es) X.env=(false,eval e X.env)::starEach es X.env:=by rfl) (gG:(backTo pos (starEach es X.env)).any (·.1)=false:=by rfl):PE X (.Call (.Name x p) (e::es) [] pos) (rh sp [] E t):=Ue h hr hk hg hx ha pT he gG
theorem sv (i:Nat) (hN:X.N.Nodup) (he:PE X e te) (hi:X.N[i]?=some x:=by exact rfl) (hx:Loc X.env.scope x:=by first | exact Or.inl rfl | exact Or.inr rfl) (hs:swapsWith e (some (.Name x pos')) pos.line X.env=pure false:=by rfl) (hf:X.fn x=true∨X.env.scope.names.lookup x=some .local:=by first | exact .inl rfl | exact .inr rfl | assumption) :
 PS X (.Assign [.Name x pos'] e pos) (Mc te (AS i)):=SG hN hi hx he hs hf
theorem iz (ho:i7 X (compareOp op) r) (ha:PE X a ta) (hb:PE X b tb) (hm:behindInMarks op b=false:=by exact Ml _):PE X (.Compare a [op] [b] pos) (Kl r ta tb):=Py ho ha hb hm
theorem b8 (ho:i7 X (compareOp op) r) (ha:PE X a ta) (hb:PE X b tb) (hm:behindInMarks op b=false:=by exact Ml _):PT X (.Compare a [op] [b] pos) (Km (Kl r ta tb)):=Pz ho ha hb hm
theorem ek (hr:SX X r) (ha:PE X a ta) (hb:PE X b tb) (hs:A8 b:=by exact fun _ _=>rfl):PE X (.Subscript a b pos) (Kl r ta tb):=Wj hr ha hb hs
end
def VK (k:Int):Prop:=0≤k∧k≤3
def VM (m:Int):Prop:=0≤m∧m≤4
def VB (k x:Int):Prop:=VK k∧0≤x∧x<2*BF.aU (BF.fm k)
theorem ML {k:Int} (h:VK k):lB [V.int 5,.int 8,.int 8,.int 11] k=some (.int (BF.fm k).e):=by
 rcases BF.ur h.1 h.2 with rfl | rfl | rfl | rfl<;>rfl
theorem uw {k:Int} (h:VK k):lB [V.int 10,.int 7,.int 23,.int 52] k=some (.int (BF.fm k).m):=by
 rcases BF.ur h.1 h.2 with rfl | rfl | rfl | rfl<;>rfl
theorem aaz {j:Nat} (h:j≤100):(0:Int)≤j∧(j:Int)≤60000∧Sm 60000 1:=⟨Kf,Kf,b6 J9 J9⟩
theorem Jf (j:Nat):(1:Int)*2^((j:Int)).toNat=2^j:=by rw[dc,aN]
section
variable {P:Program} {w:World} {K:aP} {mg:Str→Option Value} {base:Heap} {C C2 C3:Addr}
def Cf (K:aP) (C:Addr):Sp:=fun vs H Q _=>∃k,vs=[.int k]∧(VK k)∧Q (.int (BF.nb (BF.fm k))) H
theorem Cg:aD ["kind"] ["kind"] (ay (top 5)):=bz
theorem jC (ak:Ev K mg C C2 C3):cw P w K mg base "byte_count" ["kind"] 1 (Cf K C):=by
 have T:=ak.T;refine bc (ak.df 0) Cg tW (tX fun f bw A outer s H Q E hr k h=>?_);obtain⟨hp,q⟩:=h;have sm:=BF.gL k;have e2:=(BF.dk k).e2;refine⟨_,aj (aq (aH ip (aH bX (aH bX (al) (ia T.kq rfl (pv 0))) (ia T.e8 rfl (pv 0))) (al))),bP rfl rfl (ML hp) (ck rfl rfl rfl (bG rfl (uw hp) (bG rfl rfl (bJ rfl rfl (u9 J9 J9) ⟨aI.refl _,?r1⟩))))⟩
 case r1=>exact q
def zJ (K:aP) (C:Addr):Sp:=fun vs H Q _=>∃k,vs=[.int k]∧(VK k)∧Q (.int (BF.az (BF.fm k))) H
theorem qH:aD ["kind","bias"] ["kind"] (ay (top 6)):=bz
theorem kr (ak:Ev K mg C C2 C3):cw P w K mg base "least_power" ["kind"] 1 (zJ K C):=by
 have T:=ak.T;refine bc (ak.df 1) qH tW (tX fun f bw A outer s H Q E hr k h=>?_);obtain⟨hp,q⟩:=h;have sm:=BF.gL k;have e2:=(BF.dk k).e2;refine⟨_,ah (sv 1 qH.nd (aH dm (aH dT (al) (aH dm (ia T.kq rfl (pv 0)) (al))) (al))) (aj (aq (aH dm (aH dm (al) (pv 1)) (ia T.e8 rfl (pv 0))))),bP rfl rfl (ML hp) (bG rfl rfl (bJ rfl rfl ?c1 (bG rfl rfl (aE rfl rfl rfl rfl (bG rfl (uw hp) (bG rfl rfl ⟨aI.refl _,?r1⟩))))))⟩
 case c1=>exact⟨Kf,Kf,b6 J9 J9⟩
 case r1 =>
  refine bD q ?_;rcases BF.ur hp.1 hp.2 with rfl | rfl | rfl | rfl<;>rfl
def GD (K:aP) (C:Addr):Sp:=fun vs H Q _=>∃k,vs=[.int k]∧(VK k)∧Q (.int (BF.aU (BF.fm k))) H
theorem GF:aD ["kind"] ["kind"] (ay (top 7)):=bz
theorem nZ (ak:Ev K mg C C2 C3):cw P w K mg base "sign_bit" ["kind"] 1 (GD K C):=by
 have T:=ak.T;refine bc (ak.df 2) GF tW (tX fun f bw A outer s H Q E hr k h=>?_);obtain⟨hp,q⟩:=h;have sm:=BF.gL k;have e2:=(BF.dk k).e2;refine⟨_,aj (aq (aH dT (al) (aH bX (ia T.kq rfl (pv 0)) (ia T.e8 rfl (pv 0))))),aE rfl rfl (ML hp) rfl (bG rfl (uw hp) (bG rfl rfl (bJ rfl rfl ?c1 ⟨aI.refl _,?r1⟩)))⟩
 case c1=>exact⟨Kf,Kf,b6 J9 J9⟩
 case r1 =>
  refine bD q ?_;rcases BF.ur hp.1 hp.2 with rfl | rfl | rfl | rfl<;>rfl
def wL (K:aP) (C:Addr):Sp:=fun vs H Q _=>∃k,vs=[.int k]∧(VK k)∧Q (.int (BF.bE (BF.fm k))) H
theorem wM:aD ["kind"] ["kind"] (ay (top 8)):=bz
theorem cF (ak:Ev K mg C C2 C3):cw P w K mg base "infinity_bits" ["kind"] 1 (wL K C):=by
 have T:=ak.T;refine bc (ak.df 3) wM tW (tX fun f bw A outer s H Q E hr k h=>?_);obtain⟨hp,q⟩:=h;have sm:=BF.gL k;have e2:=(BF.dk k).e2;refine⟨_,aj (aq (aH dT (aH dm (aH dT (al) (ia T.kq rfl (pv 0))) (al)) (ia T.e8 rfl (pv 0)))),bP rfl rfl (ML hp) (bJ rfl rfl ?c1 (ck rfl rfl rfl (bG rfl (uw hp) (bJ rfl rfl ?c2 ⟨aI.refl _,?r1⟩))))⟩
 case c1=>exact⟨Kf,Kf,b6 J9 J9⟩
 case c2 =>
  refine⟨Kf,Kf,b6 ?_ J9⟩;rcases BF.ur hp.1 hp.2 with rfl | rfl | rfl | rfl<;>decide
 case r1 =>
  refine bD q ?_;rcases BF.ur hp.1 hp.2 with rfl | rfl | rfl | rfl<;>rfl
def GH (K:aP) (C:Addr):Sp:=fun vs H Q _=>∃k,vs=[.int k]∧(VK k)∧Q (.int (BF.nR (BF.fm k))) H
theorem GI:aD ["kind"] ["kind"] (ay (top 9)):=bz
theorem fu (ak:Ev K mg C C2 C3):cw P w K mg base "nan_bits" ["kind"] 2 (GH K C):=by
 have T:=ak.T;refine bc (ak.df 4) GI tW (tX fun f bw A outer s H Q E hr k h=>?_);obtain⟨hp,q⟩:=h;have sm:=BF.gL k;have e2:=(BF.dk k).e2;refine⟨_,aj (aq (aH bX (aH bX (pf (nZ ak) hr (aa (pv 0) (ae))) (pf (cF ak) hr (aa (pv 0) (ae)))) (aH dT (al) (aH dm (ia T.e8 rfl (pv 0)) (al))))),cP rfl rfl ?p1 (cP rfl rfl ?p2 (ck rfl rfl rfl (bG rfl (uw hp) (bG rfl rfl (bJ rfl rfl ?c1 (bG rfl rfl ⟨aI.refl _,?r1⟩))))))⟩
 case p1=>exact hp
 case p2=>exact hp
 case c1=>exact⟨Kf,Kf,b6 J9 J9⟩
 case r1 =>
  refine bD q ?_;rcases BF.ur hp.1 hp.2 with rfl | rfl | rfl | rfl<;>rfl
def zK (K:aP) (C:Addr):Sp:=fun vs H Q _=>∃k x,vs=[.int k,.int x]∧(VK k)∧Q (.bl (decide (BF.aU (BF.fm k)≤x))) H
theorem zL:aD ["kind","bits"] ["kind","bits"] (ay (top 10)):=bz
theorem dW (ak:Ev K mg C C2 C3):cw P w K mg base "is_negative" ["kind","bits"] 2 (zK K C):=by
 have T:=ak.T;refine bc (ak.df 5) zL lp (lr fun f bw A outer s H Q E hr k x h=>?_);obtain⟨hp,q⟩:=h;refine⟨_,aj (aq (iz mv (pv 1) (pf (nZ ak) hr (aa (pv 0) (ae))))),aR rfl rfl (eG rfl ?p1 (bG rfl rfl ⟨aI.refl _,?r1⟩))⟩
 case p1=>exact hp
 case r1=>exact q
def yb (K:aP) (C:Addr):Sp:=fun vs H Q _=>∃k x,vs=[.int k,.int x]∧(VK k∧0≤x)∧Q (.int (x%BF.aU (BF.fm k))) H
theorem yc:aD ["kind","bits"] ["kind","bits"] (ay (top 11)):=bz
theorem fc (ak:Ev K mg C C2 C3):cw P w K mg base "without_sign" ["kind","bits"] 2 (yb K C):=by
 have T:=ak.T;refine bc (ak.df 6) yc lp (lr fun f bw A outer s H Q E hr k x h=>?_);obtain⟨hp,q⟩:=h;refine⟨_,aj (aq (aH Mi (pv 1) (aH dm (pf (nZ ak) hr (aa (pv 0) (ae))) (al)))),aR rfl rfl (eG rfl ?p1 (bG rfl rfl (bG rfl rfl ⟨aI.refl _,?r1⟩)))⟩
 case p1=>exact hp.1
 case r1=>exact bD q (P2.vR ((BF.fm k).e+(BF.fm k).m) hp.2)
def D5 (K:aP) (C:Addr):Sp:=fun vs H Q _=>∃k neg z,vs=[.int k,.bl neg,.int z]∧(VK k)∧Q (.int (BF.ws (BF.fm k) neg z)) H
theorem D6:aD ["kind","negative","size"] ["kind","negative","size"] (ay (top 12)):=bz
theorem fD (ak:Ev K mg C C2 C3):cw P w K mg base "with_sign" ["kind","negative","size"] 2 (D5 K C):=by
 have T:=ak.T;refine bc (ak.df 7) D6 lW (lX fun f bw A outer s H Q E hr k neg z h=>?_);obtain⟨hp,q⟩:=h;refine⟨_,aj (aq (cY (b9 (aQ (pv 1)) (aH bX (pv 2) (pf (nZ ak) hr (aa (pv 0) (ae)))) (pv 2)))),⟨.int (BF.ws (BF.fm k) neg z),aR rfl rfl (aK (fun h1=>aR rfl rfl (eG rfl ?p1 (bG rfl rfl ?d1))) (fun h1=>bg rfl ?d2)),⟨aI.refl _,?r1⟩⟩⟩
 case p1=>exact hp
 case d1=>exact⟨by unfold BF.ws;rw[ao h1],rfl⟩
 case d2=>exact⟨by unfold BF.ws;rw[ag h1],rfl⟩
 case r1=>exact q
def Lp (K:aP) (C:Addr):Sp:=fun vs H Q _=>∃k x,vs=[.int k,.int x]∧(VK k∧0≤x)∧Q (.bl (BF.cp (BF.fm k) x)) H
theorem Lq:aD ["kind","bits"] ["kind","bits"] (ay (top 13)):=bz
theorem fw (ak:Ev K mg C C2 C3):cw P w K mg base "is_nan" ["kind","bits"] 3 (Lp K C):=by
 have T:=ak.T;refine bc (ak.df 8) Lq lp (lr fun f bw A outer s H Q E hr k x h=>?_);obtain⟨hp,q⟩:=h;refine⟨_,aj (aq (iz eX (pf (fc ak) hr (aa (pv 0) (aa (pv 1) (ae)))) (pf (cF ak) hr (aa (pv 0) (ae))))),bx rfl rfl rfl ?p1 rfl (eG rfl ?p2 (bG rfl rfl ⟨aI.refl _,?r1⟩))⟩
 case p1=>exact hp
 case p2=>exact hp.1
 case r1=>exact q
def zM (K:aP) (C:Addr):Sp:=fun vs H Q _=>∃k x,vs=[.int k,.int x]∧(VK k∧0≤x)∧Q (.bl (BF.hG (BF.fm k) x)) H
theorem zN:aD ["kind","bits"] ["kind","bits"] (ay (top 14)):=bz
theorem gA (ak:Ev K mg C C2 C3):cw P w K mg base "is_infinite" ["kind","bits"] 3 (zM K C):=by
 have T:=ak.T;refine bc (ak.df 9) zN lp (lr fun f bw A outer s H Q E hr k x h=>?_);obtain⟨hp,q⟩:=h;refine⟨_,aj (aq (iz bp (pf (fc ak) hr (aa (pv 0) (aa (pv 1) (ae)))) (pf (cF ak) hr (aa (pv 0) (ae))))),bx rfl rfl rfl ?p1 rfl (eG rfl ?p2 (bG rfl rfl ⟨aI.refl _,?r1⟩))⟩
 case p1=>exact hp
 case p2=>exact hp.1
 case r1=>exact q
def Jg (K:aP) (C:Addr):Sp:=fun vs H Q _=>∃k x,vs=[.int k,.int x]∧(VK k∧0≤x)∧Q (.bl (BF.eA (BF.fm k) x)) H
theorem Jh:aD ["kind","bits"] ["kind","bits"] (ay (top 15)):=bz
theorem jc (ak:Ev K mg C C2 C3):cw P w K mg base "is_zero" ["kind","bits"] 3 (Jg K C):=by
 have T:=ak.T;refine bc (ak.df 10) Jh lp (lr fun f bw A outer s H Q E hr k x h=>?_);obtain⟨hp,q⟩:=h;refine⟨_,aj (aq (iz bp (pf (fc ak) hr (aa (pv 0) (aa (pv 1) (ae)))) (al))),br rfl rfl rfl ?p1 (bG rfl rfl ⟨aI.refl _,?r1⟩)⟩
 case p1=>exact hp
 case r1=>exact q
end
theorem Sm.mono {a b:Nat} {z:Int} (h:Sm a z) (TR:a≤b):Sm b z:=b5 h (fb J9 TR)
theorem Sm.le {n:Nat} {y z:Int} (h:Sm n y) (hz:z.natAbs≤y.natAbs):Sm n z:=Nat.lt_of_le_of_lt hz h
theorem Sm.shl {a k:Nat} {z:Int} (h:Sm a z):Sm (a+k) (z*2^k):=by
 unfold Sm at *;rw[JU,JV,eC];exact DE h (cV k)
theorem Sm.neg {a:Nat} {z:Int} (h:Sm a z):Sm a (-z):=by unfold Sm at *;rw[Int.natAbs_neg];exact h
theorem Sm.add {a:Nat} {y z:Int} (h:Sm a y) (h':Sm a z):Sm (a+1) (y+z):=by
 unfold Sm at *;have:=Int.natAbs_add_le y z;rw[gW];omega
theorem Sm.mul {a b:Nat} {y z:Int} (h:Sm a y) (h':Sm b z):Sm (a+b) (y*z):=by
 unfold Sm at *;rw[JU,eC];exact J8 h (mw h') (cV b)
theorem tw {a:Nat} {z:Int} (h:Sm a z) (h0:0<z):1≤BF.bl z∧BF.bl z≤a:=by
 have:=wC h;have e:=QS z;refine⟨?_,Kf⟩;unfold BF.bl;rw[ag Kf];omega
theorem GJ {n d:Int}:BF.bl n-BF.bl d-1≤BF.lead n d∧BF.lead n d≤BF.bl n-BF.bl d:=by
 unfold BF.lead;dsimp only;split<;>omega
def RB (n d p:Int):Prop:=(0≤n∧0<d)∧∃a b:Nat,Sm a n∧Sm b d∧a+b≤8900∧(b:Int)-p≤8900∧p≤9000
section
variable {P:Program} {w:World} {K:aP} {mg:Str→Option Value} {base:Heap} {C C2 C3:Addr}
theorem dt {p:Prop} [Decidable p] (h:decide p=true):p:=eU h
theorem df {p:Prop} [Decidable p] (h:¬decide p=true):¬p:=fun q=>h (du q)
def Lr (K:aP) (C:Addr):Sp:=fun vs H Q _=>∃m,vs=[.int m]∧(VM m)∧∀m2,VM m2∧BF.md m2=BF.jT (BF.md m)→Q (.int m2) H
theorem Ls:aD ["mode"] ["mode"] (ay (top 25)):=bz
theorem Ot (ak:Ev K mg C C2 C3):cw P w K mg base "turned" ["mode"] 1 (Lr K C):=by
 have T:=ak.T;refine bc (ak.df 13) Ls tW (tX fun f bw A outer s H Q E hr m h=>?_);obtain⟨hp,q⟩:=h;refine⟨_,ah (aS (b8 bp (pv 0) (aG T.Ft rfl)) (aj (aq (aG T.UP rfl))) (aB)) (aj (aq (cY (b9 (b8 bp (pv 0) (aG T.UP rfl)) (aG T.Ft rfl) (pv 0))))),aE rfl rfl rfl rfl (aK (fun h1=>⟨aI.refl _,?r1⟩) (fun h1=>⟨.int (if m=2 then 1 else m),aE rfl rfl rfl rfl (aK (fun h2=>?d1) (fun h2=>bg rfl ?d2)),⟨aI.refl _,?r2⟩⟩))⟩
 case r1=>exact q 2 ⟨⟨J9,J9⟩,by rw[dt h1];rfl⟩
 case d1=>exact⟨by rw[dt h2];rfl,rfl⟩
 case d2=>exact⟨by rw[ag (df h2)],rfl⟩
 case r2 =>
  refine q _ ?_;by_cases e:m=2
  ·rw[ao e,e];exact⟨⟨J9,J9⟩,rfl⟩
  ·rw[ag e];refine⟨hp,?_⟩;rcases BF.wu hp.1 hp.2 with rfl | rfl | rfl | rfl | rfl
   ·rfl
   ·exact absurd h1 J9
   ·exact absurd rfl e
   ·rfl
   ·rfl
def yd (K:aP) (C:Addr):Sp:=fun vs H Q _=>∃m neg odd tr d,vs=[.int m,.bl neg,.bl odd,.int tr,.int d]∧(VM m)∧Q (.bl (BF.vZ (BF.md m) neg odd tr d)) H
theorem ye:aD ["mode","negative","odd","twice_rest","d"] ["mode","negative","odd","twice_rest","d"] (ay (top 27)):=bz
theorem zO (ak:Ev K mg C C2 C3):cw P w K mg base "goes_outward" ["mode","negative","odd","twice_rest","d"] 1 (yd K C):=by
 have T:=ak.T;refine bc (ak.df 15) ye B0 (B3 fun f bw A outer s H Q E hr m neg odd tr d h=>?_);obtain⟨hp,q⟩:=h;refine⟨_,ah (aS (b8 bp (pv 0) (aG T.Ft rfl)) (aj (aq (pv 1))) (aB)) (ah (aS (b8 bp (pv 0) (aG T.UP rfl)) (aj (aq (pO (pv 1)))) (aB)) (ah (aS (b8 bp (pv 0) (aG T.wI rfl)) (aj (aq (jJ))) (aB)) (ah (aS (b8 bp (pv 3) (pv 4)) (aj (aq (cY (AR (pv 2) (jh (iz bp (pv 0) (aG T.DY rfl))))))) (aB)) (aj (aq (iz eX (pv 3) (pv 4))))))),aE rfl rfl rfl rfl (aK (fun h1=>bg rfl ⟨aI.refl _,?r1⟩) (fun h1=>aE rfl rfl rfl rfl (aK (fun h2=>aR rfl rfl ⟨aI.refl _,?r2⟩) (fun h2=>aE rfl rfl rfl rfl (aK (fun h3=>⟨aI.refl _,?r3⟩) (fun h3=>bx rfl rfl rfl rfl rfl (aK (fun h4=>⟨.bl (odd||decide (m=4)),aR rfl rfl (aK (fun h5=>?d2) (fun h5=>bP rfl rfl rfl ?d1)),⟨aI.refl _,?r4⟩⟩) (fun h4=>br rfl rfl rfl rfl ⟨aI.refl _,?r5⟩))))))))⟩
 case r1=>exact wD q (by rw[dt h1];rfl)
 case r2=>exact wD q (by rw[dt h2];rfl)
 case r3=>exact wD q (by rw[dt h3];rfl)
 case d2=>exact⟨by rw[h5];rfl,rfl⟩
 case d1=>exact⟨by rw[aV _ |>.mp h5];rfl,rfl⟩
 case r4 =>
  refine wD q ?_;have e:=dt h4;rcases BF.wu hp.1 hp.2 with rfl | rfl | rfl | rfl | rfl
  ·show (odd||decide ((0:Int)=4))=if tr=d then odd else decide (d<tr)
   rw[ao e];simp
  ·exact absurd rfl (df h1)
  ·exact absurd rfl (df h2)
  ·exact absurd rfl (df h3)
  ·show (odd||decide ((4:Int)=4))=if tr=d then true else decide (d<tr)
   rw[ao e];simp
 case r5 =>
  refine wD q ?_;have e:=df h4;rcases BF.wu hp.1 hp.2 with rfl | rfl | rfl | rfl | rfl
  ·show decide (d<tr)=if tr=d then odd else decide (d<tr)
   rw[ag e]
  ·exact absurd rfl (df h1)
  ·exact absurd rfl (df h2)
  ·exact absurd rfl (df h3)
  ·show decide (d<tr)=if tr=d then true else decide (d<tr)
   rw[ag e]
def vc (K:aP) (C:Addr):Sp:=fun vs H Q _=>∃m neg n d,vs=[.int m,.bl neg,.int n,.int d]∧(VM m∧(0<d∧Sm 8999 d)∧0≤n∧Sm 50000 n)∧Q (.int (BF.wq (BF.md m) neg n d)) H
theorem jL:aD ["mode","negative","n","d","quotient","rest"] ["mode","negative","n","d"] (ay (top 26)):=bz
theorem iZ (ak:Ev K mg C C2 C3):cw P w K mg base "whole_quotient" ["mode","negative","n","d"] 2 (vc K C):=by
 have T:=ak.T;refine bc (ak.df 14) jL qS (qT fun f bw A outer s H Q E hr m neg n d h=>?_);obtain⟨⟨hm,hd,hn,sn⟩,q⟩:=h;have er:n-n/d*d=n%d:=by have:=uT n d;rw[iJ] at this;omega
 have r0:=pK n (jw hd.1);have r1:=FP n hd.1;have sq:Sm 50000 (n/d):=sn.le (by
  have h1:=f7 hn (bo hd.1);have h2:n/d≤n:=mh d hn;omega)
 refine⟨_,ah (sv 4 jL.nd (aH ip (pv 2) (pv 3))) (ah (sv 5 jL.nd (aH dm (pv 2) (aH cK (pv 4) (pv 3)))) (ah (aS (cy (PW.pt (dj (b8 bp (pv 5) (al)) (dQ (iY (aQ (pf (zO ak) hr (aa (pv 0) (aa (pv 1) (aa (iz bp (aH jE (pv 4) (al)) (al)) (aa (aH cK (al) (pv 5)) (aa (pv 3) (ae))))))))))))) (aj (aq (pv 4))) (aB)) (aj (aq (aH bX (pv 4) (al)))))),aR rfl rfl (bJ rfl rfl ?c1 (aW rfl rfl rfl (bJ rfl rfl ?c2 (bG rfl rfl ⟨(decide (n%d=0)||!BF.vZ (BF.md m) neg (decide (n/d%2=1)) (2*(n%d)) d),aE rfl rfl rfl rfl (aK (fun h2=>?d1) (fun h2=>aW rfl rfl rfl (bJ rfl rfl (show (0:Int)<2 by decide) (ck rfl rfl rfl (bJ rfl rfl ?c3 (bg rfl (jY rfl ?p1 (bg rfl ?d2)))))))),aK (fun h1=>bg rfl ⟨aI.refl _,?r1⟩) (fun h1=>bP rfl rfl rfl ⟨aI.refl _,?r2⟩)⟩))))⟩
 case c1=>exact hd
 case c2=>exact⟨sq.mono J9,hd.2.mono J9⟩
 case c3=>exact⟨b6 J9 J9,by rw[er];exact(hd.2.le Kf).mono J9⟩
 case p1=>exact hm
 case d1=>exact⟨by rw[er] at h2;rw[du (show n%d=0 from dt h2)];rfl,rfl⟩
 case d2 =>
  refine⟨?_,rfl⟩;rw[er] at h2 ⊢;rw[bS (df h2)];rfl
 case r1 =>
  refine bD q ?_;unfold BF.wq;rw[ao];rw[bR,bj,xD] at h1;exact h1
 case r2 =>
  refine bD q ?_;unfold BF.wq;rw[ag];rw[bR,bj,xD] at h1;exact h1
def wN (K:aP) (C:Addr):Sp:=fun vs H Q _=>∃n d,vs=[.int n,.int d]∧((0<n∧0<d)∧Sm 20000 n∧Sm 20000 d)∧Q (.int (BF.lead n d)) H
theorem i0:aD ["n","d","power","below"] ["n","d"] (ay (top 28)):=bz
theorem yf (ak:Ev K mg C C2 C3):cw P w K mg base "leading_power" ["n","d"] 1 (wN K C):=by
 have T:=ak.T;refine bc (ak.df 16) i0 lp (lr fun f bw A outer s H Q E hr n d h=>?_);obtain⟨⟨h0,sn,sd⟩,q⟩:=h;have b1:=tw sn h0.1;have b2:=tw sd h0.2;refine⟨_,ah (sv 2 i0.nd (aH dm (Az (pv 0)) (Az (pv 1)))) (ah (AA (aS (b8 mv (pv 2) (al)) (aj (sv 3 i0.nd (iz jv (pv 0) (aH dT (pv 1) (pv 2))))) (aj (sv 3 i0.nd (iz jv (aH dT (pv 0) (iB gn (pv 2))) (pv 1)))))) (aj (aq (cY (b9 (aQ (pv 3)) (aH dm (pv 2) (al)) (pv 2)))))),ax rfl rfl rfl rfl (bG rfl rfl ⟨[some (.int n),some (.int d),some (.int (BF.bl n-BF.bl d)),some (.bl (if 0≤BF.bl n-BF.bl d then decide (n<d*2^(BF.bl n-BF.bl d).toNat) else decide (n*2^(-(BF.bl n-BF.bl d)).toNat<d)))],aE rfl rfl rfl rfl (aK (fun h1=>aW rfl rfl rfl (bJ rfl rfl ?c1 (bG rfl rfl ?e1))) (fun h1=>aW rfl rfl rfl (bJ rfl rfl ?c2 (bP rfl rfl rfl ?e2)))),⟨.int (BF.lead n d),aR rfl rfl (aK (fun h2=>bP rfl rfl rfl ?d1) (fun h2=>bg rfl ?d2)),⟨aI.refl _,?r1⟩⟩⟩)⟩
 case c1 =>
  have:=dt h1;exact⟨this,Kf,sd.mono J9⟩
 case c2 =>
  have:=df h1;exact⟨Kf,Kf,sn.mono J9⟩
 case e1=>exact⟨by rw[ao (dt h1)];rfl,rfl⟩
 case e2=>exact⟨by rw[ag (df h1)];rfl,rfl⟩
 case d1=>exact⟨by unfold BF.lead;dsimp only;rw[if_pos h2],rfl⟩
 case d2=>exact⟨by unfold BF.lead;dsimp only;rw[if_neg h2],rfl⟩
 case r1=>exact q
def tY (K:aP) (C:Addr):Sp:=fun vs H Q _=>∃k m neg,vs=[.int k,.int m,.bl neg]∧(VK k∧VM m)∧Q (.int (if (BF.md m).beyond neg=true then BF.bE (BF.fm k) else BF.bE (BF.fm k)-1)) H
theorem tZ:aD ["kind","mode","negative"] ["kind","mode","negative"] (ay (top 30)):=bz
theorem vd (ak:Ev K mg C C2 C3):cw P w K mg base "beyond_greatest" ["kind","mode","negative"] 2 (tY K C):=by
 have T:=ak.T;refine bc (ak.df 18) tZ lW (lX fun f bw A outer s H Q E hr k m neg h=>?_);obtain⟨hp,q⟩:=h;refine⟨_,ah (aS (cy (PW.pt (dj (b8 bp (pv 1) (aG T.wI rfl)) (dQ (b8 bp (pv 1) (cY (b9 (aQ (pv 2)) (aG T.UP rfl) (aG T.Ft rfl)))))))) (aj (aq (aH dm (pf (cF ak) hr (aa (pv 0) (ae))) (al)))) (aB)) (aj (aq (pf (cF ak) hr (aa (pv 0) (ae))))),⟨(!(BF.md m).beyond neg),aE rfl rfl rfl rfl (aK (fun h2=>?d1) (fun h2=>bg rfl ⟨.int (if neg=true then 2 else 1),aR rfl rfl (aK (fun h3=>?d2) (fun h3=>?d3)),ck rfl rfl rfl ?d4⟩)),aK (fun h1=>cP rfl rfl ?p1 (bG rfl rfl ⟨aI.refl _,?r1⟩)) (fun h1=>cP rfl rfl ?p2 ⟨aI.refl _,?r2⟩)⟩⟩
 case d1=>exact⟨by rw[dt h2];rfl,rfl⟩
 case d2=>exact⟨by rw[ao h3],rfl⟩
 case d3=>exact⟨by rw[ag h3],rfl⟩
 case d4 =>
  refine⟨?_,rfl⟩;rcases BF.wu hp.2.1 hp.2.2 with rfl | rfl | rfl | rfl | rfl
  ·cases neg<;>rfl
  ·cases neg<;>rfl
  ·cases neg<;>rfl
  ·exact absurd rfl (df h2)
  ·cases neg<;>rfl
 case p1=>exact hp.1
 case p2=>exact hp.1
 case r1 =>
  refine bD q ?_;rw[xD] at h1;rw[h1,ag J9]
 case r2 =>
  refine bD q ?_;rw[xD] at h1;rw[IM _ |>.mp h1,ao rfl]
def Ji (K:aP) (C:Addr):Sp:=fun vs H Q _=>∃k m neg n d pw,vs=[.int k,.int m,.bl neg,.int n,.int d,.int pw]∧(VK k∧VM m∧RB n d pw)∧Q (.int (BF.Bp (BF.fm k) (BF.md m) neg n d pw)) H
theorem gT:aD ["kind","mode","negative","n","d","power","fraction_bits","least","unit","shift","count","size"] ["kind","mode","negative","n","d","power"] (ay (top 29)):=bz
theorem mQ (ak:Ev K mg C C2 C3):cw P w K mg base "rounded" ["kind","mode","negative","n","d","power"] 3 (Ji K C):=by
 have T:=ak.T;refine bc (ak.df 17) gT QO (QP fun f bw A outer s H Q E hr k m neg n d pw h=>?_);obtain⟨⟨hk,hm,h0,a,b,sn,sd,TR,hbp,hp9⟩,q⟩:=h;have sm:=BF.gL k;have b2:=tw sd h0.2;obtain⟨u,hu⟩:∃u,u=(if BF.az (BF.fm k)>BF.lead n d+pw-((BF.fm k).m:Int) then BF.az (BF.fm k) else BF.lead n d+pw-((BF.fm k).m:Int)):=⟨_,rfl⟩;refine⟨_,ah (aS (b8 bp (pv 3) (al)) (aj (aq (pf (fD ak) hr (aa (pv 0) (aa (pv 2) (aa (al) (ae))))))) (aB)) (ah (sv 6 gT.nd (ia T.e8 rfl (pv 0))) (ah (sv 7 gT.nd (pf (kr ak) hr (aa (pv 0) (ae)))) (ah (sv 8 gT.nd (bW (pR rfl) rfl T.GC boot_max (aa (aH dm (aH bX (pf (yf ak) hr (aa (pv 3) (aa (pv 4) (ae)))) (pv 5)) (pv 6)) (aa (pv 7) (ae))))) (ah (sv 9 gT.nd (aH dm (pv 5) (pv 8))) (ah (AA (aS (b8 mv (pv 9) (al)) (aj (sv 10 gT.nd (pf (iZ ak) hr (aa (pv 1) (aa (pv 2) (aa (aH dT (pv 3) (pv 9)) (aa (pv 4) (ae)))))))) (aj (sv 10 gT.nd (pf (iZ ak) hr (aa (pv 1) (aa (pv 2) (aa (pv 3) (aa (aH dT (pv 4) (iB gn (pv 9))) (ae)))))))))) (ah (sv 11 gT.nd (aH bX (aH dT (aH dm (pv 8) (pv 7)) (pv 6)) (pv 10))) (ah (aS (b8 mv (pv 11) (pf (cF ak) hr (aa (pv 0) (ae)))) (aj (sv 11 gT.nd (pf (vd ak) hr (aa (pv 0) (aa (pv 1) (aa (pv 2) (ae))))))) (aB)) (aj (aq (pf (fD ak) hr (aa (pv 0) (aa (pv 2) (aa (pv 11) (ae)))))))))))))),aE rfl rfl rfl rfl (aK (fun h1=>aR rfl rfl (eZ rfl ?p1 ⟨aI.refl _,?r1⟩)) (fun h1=>bP rfl rfl (uw hk) (cP rfl rfl ?p2 (bx rfl rfl rfl ?p3 rfl (ck rfl rfl rfl (ck rfl rfl rfl ⟨_,_,rfl,br rfl rfl rfl rfl ⟨[some (.int k),some (.int m),some (.bl neg),some (.int n),some (.int d),some (.int pw),some (.int ((BF.fm k).m:Int)),some (.int (BF.az (BF.fm k))),some (.int u),some (.int (pw-u)),some (.int (if 0≤pw-u then BF.wq (BF.md m) neg (n*2^(pw-u).toNat) d else BF.wq (BF.md m) neg n (d*2^(-(pw-u)).toNat))),none],aE rfl rfl rfl rfl (aK (fun h2=>ax rfl rfl rfl rfl (bJ rfl rfl ?c1 (bg rfl (gJ rfl ?p4 ?e1)))) (fun h2=>ax rfl rfl rfl rfl (aR rfl rfl (bJ rfl rfl ?c2 (gJ rfl ?p5 ?e2))))),bx rfl rfl rfl rfl rfl (bJ rfl rfl ?c3 (bP rfl rfl rfl (aR rfl rfl (eG rfl ?p6 (ck rfl rfl rfl (aK (fun h3=>aW rfl rfl rfl (eZ rfl ?p7 (aW rfl rfl rfl (eZ rfl ?p8 ⟨aI.refl _,?r2⟩)))) (fun h3=>aW rfl rfl rfl (eZ rfl ?p9 ⟨aI.refl _,?r3⟩))))))))⟩⟩))))))⟩
 case p1=>exact hk
 case r1=>exact bD q (by unfold BF.Bp;rw[ao (dt h1)])
 all_goals have n0:0<n:=by have:=df h1;omega
 all_goals have b1:=tw sn n0
 all_goals have lb:=@GJ n d
 case p2=>exact hk
 case p3=>exact⟨⟨n0,h0.2⟩,sn.mono Kf,sd.mono Kf⟩
 all_goals have eu:u=max (BF.lead n d+pw-((BF.fm k).m:Int)) (BF.az (BF.fm k)):=by rw[hu];split<;>omega
 case c1 =>
  rw[←hu] at h2 ⊢;have:=dt h2;exact⟨this,Kf,sn.mono Kf⟩
 case p4 =>
  rw[←hu] at h2 ⊢;have:=dt h2;refine⟨hm,⟨h0.2,sd.mono Kf⟩,fE h0.1 (bo (BF.aX _)),(Sm.shl sn).mono Kf⟩
 case e1 =>
  subst hu;exact⟨by rw[ao (dt h2)];rfl,rfl⟩
 case c2 =>
  rw[←hu] at h2 ⊢;have:=df h2;exact⟨Kf,Kf,sd.mono Kf⟩
 case p5 =>
  rw[←hu] at h2 ⊢;have:=df h2;refine⟨hm,⟨pS h0.2 (BF.aX _),(Sm.shl sd).mono Kf⟩,h0.1,sn.mono Kf⟩
 case e2 =>
  subst hu;exact⟨by rw[ag (df h2)];rfl,rfl⟩
 case c3=>exact⟨Kf,Kf,b6 Kf J9⟩
 case p6=>exact hk
 case p7=>exact⟨hk,hm⟩
 case p8=>exact hk
 case p9=>exact hk
 case r2 =>
  refine bD q ?_;have Od:=dt h3;unfold BF.Bp;dsimp only;rw[if_neg (df h1),←eu,Int.toNat_natCast] at *;rw[if_pos Od]
 case r3 =>
  refine bD q ?_;have Od:=df h3;unfold BF.Bp;dsimp only;rw[if_neg (df h1),←eu,Int.toNat_natCast] at *;rw[if_neg Od]
end
def Q7 (C:Addr):Sp:=fun vs H Q _=>∃p dx n i sg z e,vs=[.ref p,.bl n,.bl i,.bl sg,.int z,.int e]∧H p=some (.ins C dx []) ∧
 ∀H':Hp,H' p=some (.ins C dx (AL ⟨n,i,sg,z,e⟩))→(∀b o,H b=some o→b≠p→H' b=some o)→Q .fU H'
def Lx (P:Program) (w:World) (K:aP) (mg:Str→Option Value) (base:Heap) (C:Addr):Prop :=
 ∃f fd,Mk K C f∧jy P w K mg base Bl 1 f fd ["self","nan","infinite","negative","size","power"] (Q7 C)∧Binds K fd ["self","nan","infinite","negative","size","power"] []∧mg "Exact"=some (.ref C)
section
variable {P:Program} {w:World} {K:aP} {mg:Str→Option Value} {base:Heap} {C C2 C3:Addr}
theorem Q8:aD ["self","nan","infinite","negative","size","power"] ["self","nan","infinite","negative","size","power"] (ay (inClass (top 32) 0)):=bz
theorem Q9 {f:Addr} {fd:FuncData} (c:QT K C) (F:xO K "__init__" "Exact.__init__" (inClass (top 32) 0) f fd) (M:Mk K C f) (hm:mg "Exact"=some (.ref C)) (hb:Binds K fd ["self","nan","infinite","negative","size","power"] []):Lx P w K mg base C:=by
 refine⟨f,fd,M,?_,hb,hm⟩;refine F.ok Q8 (fun vs H Q E h=>?_) (fun bw A outer s H vs Q E hr h=>?_)
 ·obtain⟨p,dx,n,i,sg,z,e,rfl,_⟩:=h;rfl
 ·obtain⟨p,dx,n,i,sg,z,e,rfl,hp,k⟩:=h;refine⟨_,ah (nM (pv 0) (pv 1) rfl) (ah (nM (pv 0) (pv 2) rfl) (ah (nM (pv 0) (pv 3) rfl) (ah (nM (pv 0) (pv 4) rfl) (aj (nM (pv 0) (pv 5) rfl))))),?_⟩;refine⟨_,rfl,_,rfl,p,C,dx,_,rfl,hp,c.cl,c.nan,(by show 0<1000;decide),?_⟩;refine⟨_,rfl,_,rfl,p,C,dx,_,rfl,aL,c.cl,c.inf,(by show 1<1000;decide),?_⟩;refine⟨_,rfl,_,rfl,p,C,dx,_,rfl,aL,c.cl,c.neg,(by show 2<1000;decide),?_⟩;refine⟨_,rfl,_,rfl,p,C,dx,_,rfl,aL,c.cl,c.size,(by show 3<1000;decide),?_⟩;refine⟨_,rfl,_,rfl,p,C,dx,_,rfl,aL,c.cl,c.power,(by show 4<1000;decide),?_⟩;refine k _ (Eq.trans aL ?_) fun b o e hb=>?_
  ·rfl
  ·rw[b7 hb,b7 hb,b7 hb,b7 hb,b7 hb];exact e
theorem rS (ak:Ev K mg C C2 C3):Lx P w K mg base C:=by
 obtain⟨h,X,G⟩:=ak.h;obtain⟨fi,di,ei,Fi⟩:=Ce ak.ex.2;exact Q9 ak.T.ex Fi ⟨ak.ex.1.Zx,ei.at_,ei.fn,ak.ex.1.kp⟩ (PySem.W.mg_of X G ak.ex.1.at_) (Fi.binds fun _ _ _ _ _ _ us hl=>match us,hl with | [_,_,_,_,_,_],_=>rfl)
end
def Xx (C:Addr) (t:TA):TE:=fun σ H Q=>t σ H fun vs H1=>∃n i sg z e,vs=[.bl n,.bl i,.bl sg,.int z,.int e]∧∀a H',aI H1 H'→eP C H' a ⟨n,i,sg,z,e⟩→Q (.ref a) H'
theorem pA {X:Cx} {C:Addr} {k:Nat} {p pos:Pos} {e:Expr} {es:List Expr} {t:TA} (h:Lx X.prog X.w X.K X.mg X.base C) (hr:fj k X.A) (hk:2≤k) (hg:Gl X "Exact") (ha:PA X (e::es) t)
  (he:starEach (e::es) X.env=(false,eval e X.env)::starEach es X.env:=by rfl) (gG:(backTo pos (starEach es X.env)).any (·.1)=false:=by rfl):PE X (.Call (.Name "Exact" p) (e::es) [] pos) (Xx C t):=by
 obtain⟨f,fd,M,F,hb,hm⟩:=h;intro pins s σ H Q I h;refine wpAny_Call_Name_kw (j9 I hg hm ?_ J9);refine PySem.W.callWith_K (h₀:=X.base) I.ok.mod.vD M.kp (dz (ha pos pins s σ H _ I h) fun us s1 ⟨vs,H1,I1,r,q⟩=>⟨I1.qM,?_⟩) he gG;obtain⟨n,i,sg,z,e,rfl,q⟩:=q;exact EO M F (hr.mono hk) hb .nil qb I1 r fun x dx hx hd iW=>⟨x,dx,n,i,sg,z,e,rfl,aL,fun H' h1 h2=>⟨rfl,q x H' (aI.made hx hd h2) ⟨dx,h1⟩⟩⟩
theorem gg {C:Addr} {H:Hp} {a:Addr} {u v:BF.Ex} (h:eP C H a u) (e:u=v):eP C H a v:=e ▸ h
theorem b4 {H:Hp} {a:Addr} {xs ys:List V} (h:H a=some (.lst xs)) (e:xs=ys):H a=some (.lst ys):=e ▸ h
theorem Ch {m:Int} (h:VM m):decide (m=1)=(BF.md m).isDown:=by
 rcases BF.wu h.1 h.2 with rfl | rfl | rfl | rfl | rfl<;>rfl
def EB (u:BF.Ex):Prop:=0≤u.size∧Sm 20000 u.size∧-20000≤u.power∧u.power≤20000
def PB (u:BF.Ex):Prop:=0≤u.size∧Sm 8800 u.size∧-8800≤u.power∧u.power≤9000
theorem PB.eb {u:BF.Ex} (h:PB u):EB u:=⟨h.1,h.2.1.mono J9,by have:=h.2.2;omega,by have:=h.2.2;omega⟩
theorem PB.rb {u:BF.Ex} (h:PB u):RB u.size 1 u.power:=⟨⟨h.1,J9⟩,8800,1,h.2.1,by unfold Sm;decide,J9,by have:=h.2.2.1;omega,by have:=h.2.2.2;omega⟩
section
variable {P:Program} {w:World} {K:aP} {mg:Str→Option Value} {base:Heap} {C C2 C3:Addr}
def D7 (K:aP) (C:Addr):Sp:=fun vs H Q _=>vs=[]∧(True)∧∀a H',aI H H'→eP C H' a (BF.ki)→Q (.ref a) H'
theorem D8:aD [] [] (ay (top 33)):=bz
theorem kt (ak:Ev K mg C C2 C3):cw P w K mg base "no_number" [] 3 (D7 K C):=by
 have T:=ak.T;refine cQ (ak.df 19) D8 xl0 (el0 fun f bw A outer s H Q E hr h=>?_);obtain⟨hp,q⟩:=h;refine⟨_,aj (aq (pA (rS ak) hr J9 rfl (aa (jJ) (aa (jJ) (aa (jJ) (aa (al) (aa (al) (ae)))))))),⟨_,_,_,_,_,rfl,fun a1 H1 s1 x1=>q _ _ (s1) (gg (x1) ?r1)⟩⟩
 case r1=>rfl
def GK (K:aP) (C:Addr):Sp:=fun vs H Q _=>∃neg,vs=[.bl neg]∧(True)∧∀a H',aI H H'→eP C H' a (BF.rG neg)→Q (.ref a) H'
theorem GL:aD ["negative"] ["negative"] (ay (top 34)):=bz
theorem zf (ak:Ev K mg C C2 C3):cw P w K mg base "infinity" ["negative"] 3 (GK K C):=by
 have T:=ak.T;refine cQ (ak.df 20) GL tW (tX fun f bw A outer s H Q E hr neg h=>?_);obtain⟨hp,q⟩:=h;refine⟨_,aj (aq (pA (rS ak) hr J9 rfl (aa (jJ) (aa (jJ) (aa (pv 0) (aa (al) (aa (al) (ae)))))))),bg rfl ⟨_,_,_,_,_,rfl,fun a1 H1 s1 x1=>q _ _ (s1) (gg (x1) ?r1)⟩⟩
 case r1=>rfl
def Lz (K:aP) (C:Addr):Sp:=fun vs H Q _=>∃neg z e,vs=[.bl neg,.int z,.int e]∧(True)∧∀a H',aI H H'→eP C H' a (BF.bN neg z e)→Q (.ref a) H'
theorem LA:aD ["negative","size","power"] ["negative","size","power"] (ay (top 35)):=bz
theorem gM (ak:Ev K mg C C2 C3):cw P w K mg base "finite" ["negative","size","power"] 3 (Lz K C):=by
 have T:=ak.T;refine cQ (ak.df 21) LA lW (lX fun f bw A outer s H Q E hr neg z e h=>?_);obtain⟨hp,q⟩:=h;refine⟨_,aj (aq (pA (rS ak) hr J9 rfl (aa (jJ) (aa (jJ) (aa (pv 0) (aa (pv 1) (aa (pv 2) (ae)))))))),aW rfl rfl rfl ⟨_,_,_,_,_,rfl,fun a1 H1 s1 x1=>q _ _ (s1) (gg (x1) ?r1)⟩⟩
 case r1=>rfl
def Ou (K:aP) (C:Addr):Sp:=fun vs H Q _=>∃z,vs=[.int z]∧(True)∧∀a H',aI H H'→eP C H' a (BF.gI z)→Q (.ref a) H'
theorem Ov:aD ["z"] ["z"] (ay (top 36)):=bz
theorem rT (ak:Ev K mg C C2 C3):cw P w K mg base "whole" ["z"] 4 (Ou K C):=by
 have T:=ak.T;refine cQ (ak.df 22) Ov tW (tX fun f bw A outer s H Q E hr z h=>?_);obtain⟨hp,q⟩:=h;refine⟨_,aj (aq (pf (gM ak) hr (aa (iz jv (pv 0) (al)) (aa (bW oQ rfl T.Cd boot_abs (aa (pv 0) (ae))) (aa (al) (ae)))))),aE rfl rfl rfl rfl (bg rfl (eZ rfl ?p1 (fun a1 H1 s1 x1=>q _ _ (s1) (gg (x1) ?r1))))⟩
 case p1=>trivial
 case r1 =>
  unfold BF.gI;congr 1;split<;>omega
def zP (K:aP) (C:Addr):Sp:=fun vs H Q _=>∃k x,vs=[.int k,.int x]∧(VB k x)∧∀a H',aI H H'→eP C H' a (BF.ta (BF.fm k) x)→Q (.ref a) H'
theorem jH:aD ["kind","bits","negative","size","field"] ["kind","bits"] (ay (top 37)):=bz
theorem bA (ak:Ev K mg C C2 C3):cw P w K mg base "taken_apart" ["kind","bits"] 4 (zP K C):=by
 have T:=ak.T;refine cQ (ak.df 23) jH lp (lr fun f bw A outer s H Q E hr k x h=>?_);obtain⟨hp,q⟩:=h;have sm:=BF.gL k;have r0:=pK x (jw (show 0<BF.aU (BF.fm k) from BF.aX _));have r1:=FP x (show 0<BF.aU (BF.fm k) from BF.aX _);have hM:=BF.aX (BF.fm k).m;refine⟨_,ah (sv 2 jH.nd (pf (dW ak) hr (aa (pv 0) (aa (pv 1) (ae))))) (ah (aS (aQ (pf (fw ak) hr (aa (pv 0) (aa (pv 1) (ae))))) (aj (aq (Q6 (kt ak) hr))) (aB)) (ah (aS (aQ (pf (gA ak) hr (aa (pv 0) (aa (pv 1) (ae))))) (aj (aq (pf (zf ak) hr (aa (pv 2) (ae))))) (aB)) (ah (sv 3 jH.nd (pf (fc ak) hr (aa (pv 0) (aa (pv 1) (ae))))) (ah (sv 4 jH.nd (aH Mh (pv 3) (ia T.e8 rfl (pv 0)))) (ah (aS (b8 bp (pv 4) (al)) (aj (aq (pf (gM ak) hr (aa (pv 2) (aa (pv 3) (aa (pf (kr ak) hr (aa (pv 0) (ae))) (ae))))))) (aB)) (aj (aq (pf (gM ak) hr (aa (pv 2) (aa (aH dm (pv 3) (aH dT (aH dm (pv 4) (al)) (ia T.e8 rfl (pv 0)))) (aa (aH dm (aH bX (pf (kr ak) hr (aa (pv 0) (ae))) (pv 4)) (al)) (ae)))))))))))),br rfl rfl rfl ?p1 (bx rfl rfl rfl ?p2 rfl (aK (fun h1=>⟨rfl,?p3,fun a1 H1 s1 x1=>q _ _ (s1) (gg (x1) ?r1)⟩) (fun h1=>bx rfl rfl rfl ?p4 rfl (aK (fun h2=>cP rfl rfl ?p5 (fun a2 H2 s2 x2=>q _ _ (s2) (gg (x2) ?r2))) (fun h2=>br rfl rfl rfl ?p6 (br rfl rfl rfl (uw hp.1) (bJ rfl rfl ?c1 (aE rfl rfl rfl rfl (aK (fun h3=>aW rfl rfl rfl (eG rfl ?p7 (eZ rfl ?p8 (fun a3 H3 s3 x3=>q _ _ (s3) (gg (x3) ?r3))))) (fun h3=>aW rfl rfl rfl (ck rfl rfl rfl (bG rfl (uw hp.1) (bJ rfl rfl ?c2 (ck rfl rfl rfl (eG rfl ?p9 (bP rfl rfl rfl (bG rfl rfl (eZ rfl ?Ci (fun a4 H4 s4 x4=>q _ _ (s4) (gg (x4) ?r4))))))))))))))))))))⟩
 case p1=>exact hp.1
 case p2=>exact⟨hp.1,hp.2.1⟩
 case p3=>trivial
 case p4=>exact⟨hp.1,hp.2.1⟩
 case p5=>trivial
 case p6=>exact⟨hp.1,hp.2.1⟩
 case p7=>exact hp.1
 case p8=>trivial
 case p9=>exact hp.1
 case Ci=>trivial
 case c1=>show (0:Int)≤((BF.fm k).m:Int);omega
 case c2 =>
  refine⟨Kf,Kf,b6 ?_ J9⟩;rw[aN];generalize (2:Int)^(BF.fm k).m=M at *;have h5:x%BF.aU (BF.fm k)/M≤x%BF.aU (BF.fm k):=mh M r0;have h6:0≤x%BF.aU (BF.fm k)/M:=f7 r0 Kf;omega
 case r1 =>
  unfold BF.ta;dsimp only;rw[if_pos (dt h1)]
 case r2 =>
  have e:=dt h2;have e1:=df h1;unfold BF.ta;dsimp only;rw[if_neg e1,if_pos e]
 case r3 =>
  have e2:=df h2;have e1:=df h1;have e3:=dt h3;unfold BF.ta;dsimp only;rw[Int.toNat_natCast] at e3;rw[if_neg e1,if_neg e2,if_pos e3]
 case r4 =>
  have e2:=df h2;have e1:=df h1;have e3:=df h3;unfold BF.ta;dsimp only;rw[Int.toNat_natCast] at *;rw[if_neg e1,if_neg e2,if_neg e3]
def LC (K:aP) (C:Addr):Sp:=fun vs H Q _=>∃k m a u,vs=[.int k,.int m,.ref a]∧(eP C H a u)∧(VK k∧VM m∧PB u)∧Q (.int ((BF.fm k).ofKind (BF.md m) u.kind:Nat)) H
theorem LD:aD ["kind","mode","u"] ["kind","mode","u"] (ay (top 38)):=bz
theorem gf (ak:Ev K mg C C2 C3):cw P w K mg base "packed" ["kind","mode","u"] 4 (LC K C):=by
 have T:=ak.T;refine bc (ak.df 24) LD qS (qT fun f bw A outer s H Q E hr k m a u h=>?_);obtain⟨o1,hp,q⟩:=h;refine⟨_,ah (aS (aQ (a8 T.ex .nan (pv 2))) (aj (aq (pf (fu ak) hr (aa (pv 0) (ae))))) (aB)) (ah (aS (aQ (a8 T.ex .inf (pv 2))) (aj (aq (pf (fD ak) hr (aa (pv 0) (aa (a8 T.ex .neg (pv 2)) (aa (pf (cF ak) hr (aa (pv 0) (ae))) (ae))))))) (aB)) (aj (aq (pf (mQ ak) hr (aa (pv 0) (aa (pv 1) (aa (a8 T.ex .neg (pv 2)) (aa (a8 T.ex .size (pv 2)) (aa (al) (aa (a8 T.ex .power (pv 2)) (ae))))))))))),ax rfl rfl (o1) rfl (aK (fun h1=>cP rfl rfl ?p1 ⟨aI.refl _,?r1⟩) (fun h1=>ax rfl rfl (o1) rfl (aK (fun h2=>ax rfl rfl rfl (o1) (cP rfl rfl ?p2 (eZ rfl ?p3 ⟨aI.refl _,?r2⟩))) (fun h2=>ax rfl rfl rfl rfl (ax (o1) rfl rfl (o1) (aW rfl rfl (o1) ⟨_,_,_,_,_,_,rfl,?p4,⟨aI.refl _,?r3⟩⟩))))))⟩
 case p1=>exact hp.1
 case p2=>exact hp.1
 case p3=>exact hp.1
 case p4=>exact⟨hp.1,hp.2.1,hp.2.2.rb⟩
 case r1=>exact bD q (by rw[BF.fI h1];exact(BF.dM _).symm)
 case r2=>exact bD q (by rw[BF.cU (aV _ |>.mp h1) h2];exact(BF.lS _ _).symm)
 case r3=>exact bD q (BF.Tw _ (BF.dk k) _ (aV _ |>.mp h1) (aV _ |>.mp h2) hp.2.2.1).symm
def Jj (K:aP) (C:Addr):Sp:=fun vs H Q _=>∃a u,vs=[.ref a]∧(eP C H a u)∧(True)∧∀a H',aI H H'→eP C H' a (BF.Bw u)→Q (.ref a) H'
theorem Jk:aD ["u"] ["u"] (ay (top 39)):=bz
theorem LF (ak:Ev K mg C C2 C3):cw P w K mg base "negated" ["u"] 3 (Jj K C):=by
 have T:=ak.T;refine cQ (ak.df 25) Jk lp (lr fun f bw A outer s H Q E hr a u h=>?_);obtain⟨o1,hp,q⟩:=h;refine⟨_,aj (aq (pA (rS ak) hr J9 rfl (aa (a8 T.ex .nan (pv 0)) (aa (a8 T.ex .inf (pv 0)) (aa (pO (a8 T.ex .neg (pv 0))) (aa (a8 T.ex .size (pv 0)) (aa (a8 T.ex .power (pv 0)) (ae)))))))),ax rfl rfl (o1) rfl (ax rfl (o1) rfl rfl (ax (o1) rfl rfl rfl (ax (o1) rfl rfl (o1) ⟨_,_,_,_,_,rfl,fun a1 H1 s1 x1=>q _ _ (s1) (gg (x1) ?r1)⟩)))⟩
 case r1=>rfl
def zQ (K:aP) (C:Addr):Sp:=fun vs H Q _=>∃a u k,vs=[.ref a,.int k]∧(eP C H a u)∧(True)∧∀a H',aI H H'→eP C H' a (BF.fX u k)→Q (.ref a) H'
theorem zR:aD ["u","k"] ["u","k"] (ay (top 40)):=bz
theorem mR (ak:Ev K mg C C2 C3):cw P w K mg base "times_power" ["u","k"] 3 (zQ K C):=by
 have T:=ak.T;refine cQ (ak.df 26) zR lW (lX fun f bw A outer s H Q E hr a u k h=>?_);obtain⟨o1,hp,q⟩:=h;refine⟨_,aj (aq (pA (rS ak) hr J9 rfl (aa (a8 T.ex .nan (pv 0)) (aa (a8 T.ex .inf (pv 0)) (aa (a8 T.ex .neg (pv 0)) (aa (a8 T.ex .size (pv 0)) (aa (aH bX (a8 T.ex .power (pv 0)) (pv 1)) (ae)))))))),ax rfl rfl (o1) rfl (ax rfl (o1) rfl rfl (ax (o1) rfl rfl (o1) (ax rfl rfl (o1) rfl (bG rfl rfl ⟨_,_,_,_,_,rfl,fun a1 H1 s1 x1=>q _ _ (s1) (gg (x1) ?r1)⟩))))⟩
 case r1=>rfl
def Cj (K:aP) (C:Addr):Sp:=fun vs H Q _=>∃a u,vs=[.ref a]∧(eP C H a u)∧(True)∧Q (.bl (BF.bC u)) H
theorem Ck:aD ["u"] ["u"] (ay (top 41)):=bz
theorem fO (ak:Ev K mg C C2 C3):cw P w K mg base "is_nothing" ["u"] 1 (Cj K C):=by
 have T:=ak.T;refine bc (ak.df 27) Ck lp (lr fun f bw A outer s H Q E hr a u h=>?_);obtain⟨o1,hp,q⟩:=h;refine⟨_,aj (aq (cY (lN (pO (a8 T.ex .nan (pv 0))) (lN (pO (a8 T.ex .inf (pv 0))) (jh (iz bp (a8 T.ex .size (pv 0)) (al))))))),⟨.bl (BF.bC u),ax rfl rfl (o1) rfl (bg rfl (aK (fun h2=>ax rfl rfl (o1) rfl (bg rfl (aK (fun h1=>aW rfl rfl (o1) (bG rfl rfl ?d1)) (fun h1=>?d2)))) (fun h2=>?d3))),⟨aI.refl _,?r1⟩⟩⟩
 case d1=>exact⟨by unfold BF.bC;rw[h2,h1];rfl,rfl⟩
 case d2=>exact⟨by unfold BF.bC;rw[h2,aV _ |>.mp h1];rfl,rfl⟩
 case d3=>exact⟨by unfold BF.bC;rw[aV _ |>.mp h2];rfl,rfl⟩
 case r1=>exact q
def Ow (K:aP) (C:Addr):Sp:=fun vs H Q _=>∃a u b v,vs=[.ref a,.ref b]∧(eP C H a u)∧(eP C H b v)∧(EB u∧EB v)∧∀a H',aI H H'→eP C H' a (BF.gr u v)→Q (.ref a) H'
theorem Fu:aD ["u","v","negative"] ["u","v"] (ay (top 42)):=bz
theorem Cm (ak:Ev K mg C C2 C3):cw P w K mg base "times" ["u","v"] 4 (Ow K C):=by
 have T:=ak.T;refine cQ (ak.df 28) Fu qS (qT fun f bw A outer s H Q E hr a u b v h=>?_);obtain⟨o1,o2,hp,q⟩:=h;refine⟨_,ah (aS (cy (PW.pt (dj (aQ (a8 T.ex .nan (pv 0))) (dQ (aQ (a8 T.ex .nan (pv 1))))))) (aj (aq (Q6 (kt ak) hr))) (aB)) (ah (sv 2 Fu.nd (iz AD (a8 T.ex .neg (pv 0)) (a8 T.ex .neg (pv 1)))) (ah (aS (cy (PW.pt (dj (aQ (a8 T.ex .inf (pv 0))) (dQ (aQ (a8 T.ex .inf (pv 1))))))) (aj (aq (b9 (cy (PW.pt (dj (aQ (pf (fO ak) hr (aa (pv 0) (ae)))) (dQ (aQ (pf (fO ak) hr (aa (pv 1) (ae)))))))) (Q6 (kt ak) hr) (pf (zf ak) hr (aa (pv 2) (ae)))))) (aB)) (aj (aq (pf (gM ak) hr (aa (pv 2) (aa (aH cK (a8 T.ex .size (pv 0)) (a8 T.ex .size (pv 1))) (aa (aH bX (a8 T.ex .power (pv 0)) (a8 T.ex .power (pv 1))) (ae))))))))),⟨(u.nan||v.nan),ax rfl rfl (o1) rfl (aK (fun h2=>?d1) (fun h2=>ax rfl rfl (o2) rfl ?d2)),aK (fun h1=>⟨rfl,?p1,fun a1 H1 s1 x1=>q _ _ (s1) (gg (x1) ?r1)⟩) (fun h1=>ax rfl rfl (o1) rfl (br rfl (o2) rfl rfl ⟨(u.inf||v.inf),ax rfl rfl (o1) rfl (aK (fun h4=>?d3) (fun h4=>ax rfl rfl (o2) rfl ?d4)),aK (fun h3=>⟨(BF.bC u||BF.bC v),eJ rfl rfl (o1) ?p2 (bg rfl (aK (fun h6=>?d5) (fun h6=>eJ rfl rfl (o2) ?p3 (bg rfl ?d6)))),aK (fun h5=>⟨rfl,?p4,fun a2 H2 s2 x2=>q _ _ (s2) (gg (x2) ?r2)⟩) (fun h5=>cP rfl rfl ?p5 (fun a3 H3 s3 x3=>q _ _ (s3) (gg (x3) ?r3)))⟩) (fun h3=>ax rfl rfl rfl (o1) (aW rfl rfl (o2) (bJ rfl rfl ?c1 (ax rfl rfl (o1) rfl (br rfl (o2) rfl rfl (eZ rfl ?p6 (fun a4 H4 s4 x4=>q _ _ (s4) (gg (x4) ?r4))))))))⟩))⟩⟩
 case d1=>exact⟨by rw[h2];rfl,rfl⟩
 case d2=>exact⟨by rw[aV _ |>.mp h2];rfl,rfl⟩
 case p1=>trivial
 case r1=>unfold BF.gr;rw[ao h1]
 case d3=>exact⟨by rw[h4];rfl,rfl⟩
 case d4=>exact⟨by rw[aV _ |>.mp h4];rfl,rfl⟩
 case d5=>exact⟨by rw[h6];rfl,rfl⟩
 case d6=>exact⟨by rw[aV _ |>.mp h6];rfl,rfl⟩
 case p2=>trivial
 case p3=>trivial
 case p4=>trivial
 case p5=>trivial
 case p6=>trivial
 case c1=>exact⟨hp.1.2.1.mono J9,hp.2.2.1.mono J9⟩
 case r2=>unfold BF.gr;rw[ag h1,ao h3,ao h5]
 case r3=>unfold BF.gr;rw[ag h1,ao h3,ag h5]
 case r4=>unfold BF.gr;rw[ag h1,ag h3]
def Jl (K:aP) (C:Addr):Sp:=fun vs H Q _=>∃a u p,vs=[.ref a,.int p]∧(eP C H a u)∧(EB u∧p≤u.power∧-20000≤p)∧Q (.int (BF.cnt u p)) H
theorem zg:aD ["u","power","count"] ["u","power"] (ay (top 44)):=bz
theorem qs (ak:Ev K mg C C2 C3):cw P w K mg base "counted" ["u","power"] 1 (Jl K C):=by
 have T:=ak.T;refine bc (ak.df 30) zg lW (lX fun f bw A outer s H Q E hr a u p h=>?_);obtain⟨o1,hp,q⟩:=h;refine⟨_,ah (sv 2 zg.nd (aH dT (a8 T.ex .size (pv 0)) (aH dm (a8 T.ex .power (pv 0)) (pv 1)))) (aj (aq (cY (b9 (aQ (a8 T.ex .neg (pv 0))) (iB gn (pv 2)) (pv 2))))),ax rfl rfl (o1) rfl (aW rfl (o1) rfl (bG rfl rfl (bJ rfl rfl ?c1 ⟨.int (BF.cnt u p),ax rfl rfl (o1) rfl (aK (fun h1=>aR rfl rfl ?d1) (fun h1=>bg rfl ?d2)),⟨aI.refl _,?r1⟩⟩)))⟩
 case c1 =>
  have:=hp.1.2.2;exact⟨Kf,Kf,hp.1.2.1.mono J9⟩
 case d1=>exact⟨by unfold BF.cnt BF.eH;rw[ao h1],rfl⟩
 case d2=>exact⟨by unfold BF.cnt BF.eH;rw[ag h1],rfl⟩
 case r1=>exact q
def Rb (K:aP) (C:Addr):Sp:=fun vs H Q _=>∃a u b v m,vs=[.ref a,.ref b,.int m]∧(eP C H a u)∧(eP C H b v)∧(EB u∧EB v∧VM m)∧∀a H',aI H H'→eP C H' a (BF.cG (BF.md m) u v)→Q (.ref a) H'
theorem wO:aD ["u","v","mode","power","total","negative"] ["u","v","mode"] (ay (top 43)):=bz
theorem wQ (ak:Ev K mg C C2 C3):cw P w K mg base "plus" ["u","v","mode"] 4 (Rb K C):=by
 have T:=ak.T;refine cQ (ak.df 29) wO B0 (B3 fun f bw A outer s H Q E hr a u b v m h=>?_);obtain⟨o1,o2,hp,q⟩:=h;have emin:(if v.power<u.power then v.power else u.power)=min u.power v.power:=by split<;>omega
 refine⟨_,ah (aS (cy (PW.pt (dj (aQ (a8 T.ex .nan (pv 0))) (dQ (aQ (a8 T.ex .nan (pv 1))))))) (aj (aq (Q6 (kt ak) hr))) (aB)) (ah (aS (cy (PW.pt (kc (aQ (a8 T.ex .inf (pv 0))) (kc (aQ (a8 T.ex .inf (pv 1))) (ka (b8 AD (a8 T.ex .neg (pv 0)) (a8 T.ex .neg (pv 1)))))))) (aj (aq (Q6 (kt ak) hr))) (aB)) (ah (aS (cy (PW.pt (dj (aQ (a8 T.ex .inf (pv 0))) (dQ (aQ (a8 T.ex .inf (pv 1))))))) (aj (aq (b9 (aQ (a8 T.ex .inf (pv 0))) (pv 0) (pv 1)))) (aB)) (ah (sv 3 wO.nd (bW (uD rfl) rfl T.Ln boot_min (aa (a8 T.ex .power (pv 0)) (aa (a8 T.ex .power (pv 1)) (ae))))) (ah (sv 4 wO.nd (aH bX (pf (qs ak) hr (aa (pv 0) (aa (pv 3) (ae)))) (pf (qs ak) hr (aa (pv 1) (aa (pv 3) (ae)))))) (ah (aS (b8 bp (pv 4) (al)) (ah (sv 5 wO.nd (cY (b9 (b8 Gy (a8 T.ex .neg (pv 0)) (a8 T.ex .neg (pv 1))) (a8 T.ex .neg (pv 0)) (iz bp (pv 2) (aG T.Ft rfl))))) (aj (aq (pf (gM ak) hr (aa (pv 5) (aa (al) (aa (pv 3) (ae)))))))) (aB)) (aj (aq (pf (gM ak) hr (aa (iz jv (pv 4) (al)) (aa (bW oQ rfl T.Cd boot_abs (aa (pv 4) (ae))) (aa (pv 3) (ae)))))))))))),⟨(u.nan||v.nan),ax rfl rfl (o1) rfl (aK (fun h2=>?d1) (fun h2=>ax rfl rfl (o2) rfl ?d2)),aK (fun h1=>⟨rfl,?p1,fun a1 H1 s1 x1=>q _ _ (s1) (gg (x1) ?r1)⟩) (fun h1=>⟨(u.inf&&v.inf&&(u.neg != v.neg)),ax rfl rfl (o1) rfl (aK (fun h4=>ax rfl rfl (o2) rfl (aK (fun h5=>ax rfl rfl (o1) rfl (bx rfl (o2) rfl rfl rfl ?d3)) (fun h5=>?d4))) (fun h4=>?d5)),aK (fun h3=>⟨rfl,?p2,fun a2 H2 s2 x2=>q _ _ (s2) (gg (x2) ?r2)⟩) (fun h3=>⟨(u.inf||v.inf),ax rfl rfl (o1) rfl (aK (fun h7=>?d6) (fun h7=>ax rfl rfl (o2) rfl ?d7)),aK (fun h6=>ax rfl rfl (o1) rfl (aK (fun h8=>bg rfl (q _ _ (aI.refl _) (gg (o1) ?r3))) (fun h8=>bg rfl (q _ _ (aI.refl _) (gg (o2) ?r4))))) (fun h6=>ax rfl rfl (o1) rfl (aR rfl (o2) ⟨_,_,rfl,aR rfl rfl (jr rfl (o1) ?p3 (aR rfl rfl (jr rfl (o2) ?p4 (bG rfl rfl (aE rfl rfl rfl rfl (aK (fun h9=>⟨.bl (if u.neg=v.neg then u.neg else (BF.md m).isDown),ax rfl rfl (o1) rfl (bx rfl (o2) rfl rfl rfl (aK (fun tT=>aW rfl rfl (o1) ?d8) (fun tT=>bP rfl rfl rfl ?d9))),aR rfl rfl (eZ rfl ?p5 (fun a3 H3 s3 x3=>q _ _ (s3) (gg (x3) ?r5)))⟩) (fun h9=>aE rfl rfl rfl rfl (aR rfl rfl (eZ rfl ?p6 (fun a4 H4 s4 x4=>q _ _ (s4) (gg (x4) ?r6)))))))))))⟩))⟩)⟩)⟩⟩
 case d1=>exact⟨by rw[h2];rfl,rfl⟩
 case d2=>exact⟨by rw[aV _ |>.mp h2];rfl,rfl⟩
 case p1=>trivial
 case p2=>trivial
 case r1=>unfold BF.cG;rw[ao h1]
 case d3=>exact⟨by rw[h4,h5];rfl,rfl⟩
 case d4=>exact⟨by rw[h4,aV _ |>.mp h5];rfl,rfl⟩
 case d5=>exact⟨by rw[aV _ |>.mp h4];rfl,rfl⟩
 case r2=>unfold BF.cG;rw[ag h1,ao h3]
 case d6=>exact⟨by rw[h7];rfl,rfl⟩
 case d7=>exact⟨by rw[aV _ |>.mp h7];rfl,rfl⟩
 case r3=>unfold BF.cG;rw[ag h1,ag h3,ao h6,ao h8]
 case r4=>unfold BF.cG;rw[ag h1,ag h3,ao h6,ag h8]
 all_goals rw[emin] at *
 case p3=>have:=hp.1.2.2;have:=hp.2.1.2.2;exact⟨hp.1,Kf,Kf⟩
 case p4=>have:=hp.1.2.2;have:=hp.2.1.2.2;exact⟨hp.2.1,Kf,Kf⟩
 case d8=>exact⟨by rw[ao (dE.mp tT)],rfl⟩
 case d9=>exact⟨by rw[ag (fun z=>tT (dE.mpr z)),←Ch hp.2.2],rfl⟩
 case p5=>trivial
 case p6=>trivial
 case r5 =>
  unfold BF.cG;dsimp only;rw[if_neg h1,if_neg h3,if_neg h6,if_pos (dt h9)]
 case r6 =>
  unfold BF.cG;dsimp only;rw[if_neg h1,if_neg h3,if_neg h6,if_neg (df h9)];congr 1;split<;>omega
def Cn (K:aP) (C:Addr):Sp:=fun vs H Q _=>∃a u m,vs=[.ref a,.int m]∧(eP C H a u)∧(VM m∧PB u)∧Q (.int (BF.dn (BF.md m) u)) H
theorem Co:aD ["u","mode"] ["u","mode"] (ay (top 45)):=bz
theorem ux (ak:Ev K mg C C2 C3):cw P w K mg base "whole_size" ["u","mode"] 3 (Cn K C):=by
 have T:=ak.T;refine bc (ak.df 31) Co lW (lX fun f bw A outer s H Q E hr a u m h=>?_);obtain⟨o1,hp,q⟩:=h;refine⟨_,ah (aS (b8 mv (a8 T.ex .power (pv 0)) (al)) (aj (aq (aH dT (a8 T.ex .size (pv 0)) (a8 T.ex .power (pv 0))))) (aB)) (aj (aq (pf (iZ ak) hr (aa (pv 1) (aa (a8 T.ex .neg (pv 0)) (aa (a8 T.ex .size (pv 0)) (aa (aH dT (al) (iB gn (a8 T.ex .power (pv 0)))) (ae)))))))),aW rfl rfl (o1) (ck rfl rfl rfl (aK (fun h1=>ax rfl rfl (o1) rfl (aR rfl (o1) (bJ rfl rfl ?c1 ⟨aI.refl _,?r1⟩))) (fun h1=>ax rfl rfl rfl (o1) (ax rfl rfl (o1) rfl (aW rfl (o1) rfl (bJ rfl rfl ?c2 (gJ rfl ?p1 ⟨aI.refl _,?r2⟩)))))))⟩
 case c1 =>
  have:=dt h1;have:=hp.2.2.2;exact⟨Kf,Kf,hp.2.2.1.mono J9⟩
 case r1=>exact bD q (by unfold BF.dn;rw[ao (dt h1)])
 case c2 =>
  have:=df h1;have:=hp.2.2.2;exact⟨Kf,Kf,b6 J9 J9⟩
 case p1 =>
  have:=df h1;have:=hp.2.2.2;rw[dc];refine⟨hp.1,⟨BF.aX _,?_⟩,hp.2.1,hp.2.2.1.mono J9⟩;have:=Sm.shl (a:=1) (k:=(-u.power).toNat) (z:=1) (by unfold Sm;decide);rw[dc] at this;exact this.mono Kf
 case r2=>exact bD q (by unfold BF.dn;rw[ag (df h1),dc])
def zS (K:aP) (C:Addr):Sp:=fun vs H Q _=>∃a u m,vs=[.ref a,.int m]∧(eP C H a u)∧(VM m∧PB u)∧Q (.int (BF.eH u.neg (BF.dn (BF.md m) u))) H
theorem qI:aD ["u","mode","size"] ["u","mode"] (ay (top 46)):=bz
theorem rV (ak:Ev K mg C C2 C3):cw P w K mg base "whole_value" ["u","mode"] 4 (zS K C):=by
 have T:=ak.T;refine bc (ak.df 32) qI lW (lX fun f bw A outer s H Q E hr a u m h=>?_);obtain⟨o1,hp,q⟩:=h;refine⟨_,ah (sv 2 qI.nd (pf (ux ak) hr (aa (pv 0) (aa (pv 1) (ae))))) (aj (aq (cY (b9 (aQ (a8 T.ex .neg (pv 0))) (iB gn (pv 2)) (pv 2))))),aR rfl rfl (jr rfl (o1) ?p1 ⟨.int (BF.eH u.neg (BF.dn (BF.md m) u)),ax rfl rfl (o1) rfl (aK (fun h1=>aR rfl rfl ?d1) (fun h1=>bg rfl ?d2)),⟨aI.refl _,?r1⟩⟩)⟩
 case p1=>exact hp
 case d1=>exact⟨by unfold BF.eH;rw[ao h1],rfl⟩
 case d2=>exact⟨by unfold BF.eH;rw[ag h1],rfl⟩
 case r1=>exact q
def wR (K:aP) (C:Addr):Sp:=fun vs H Q _=>∃a u,vs=[.ref a]∧(eP C H a u)∧(PB u)∧Q (.int (BF.eH u.neg (BF.dn .near u))) H
theorem wU:aD ["u"] ["u"] (ay (top 47)):=bz
theorem pB (ak:Ev K mg C C2 C3):cw P w K mg base "nearest_whole" ["u"] 5 (wR K C):=by
 have T:=ak.T;refine bc (ak.df 33) wU lp (lr fun f bw A outer s H Q E hr a u h=>?_);obtain⟨o1,hp,q⟩:=h;refine⟨_,aj (aq (pf (rV ak) hr (aa (pv 0) (aa (aG T.e7 rfl) (ae))))),bg rfl (jr rfl (o1) ?p1 ⟨aI.refl _,?r1⟩)⟩
 case p1=>exact⟨⟨J9,J9⟩,hp⟩
 case r1=>exact q
end
def Wd (lo hi:Int) (sz:Nat) (u:BF.Ex):Prop:=0≤u.size∧Sm sz u.size∧lo≤u.power∧u.power≤hi
theorem Wd.pb {lo hi:Int} {sz:Nat} {u:BF.Ex} (h:Wd lo hi sz u) (h1:sz≤8800) (h2:-8800≤lo) (h3:hi≤9000):PB u:=⟨h.1,h.2.1.mono h1,by have:=h.2.2;omega,by have:=h.2.2;omega⟩
theorem Wd.eb {lo hi:Int} {sz:Nat} {u:BF.Ex} (h:Wd lo hi sz u) (h1:sz≤20000) (h2:-20000≤lo) (h3:hi≤20000):EB u:=⟨h.1,h.2.1.mono h1,by have:=h.2.2;omega,by have:=h.2.2;omega⟩
theorem Wd.mono {lo hi lo' hi':Int} {sz sz':Nat} {u:BF.Ex} (h:Wd lo hi sz u) (h1:sz≤sz') (h2:lo'≤lo) (h3:hi≤hi'):Wd lo' hi' sz' u:=⟨h.1,h.2.1.mono h1,by have:=h.2.2;omega,by have:=h.2.2;omega⟩
theorem Rc {n:Nat} {z:Int} (h0:0≤z) (h:z<2^n):Sm n z:=by
 unfold Sm;have:=BF.bO n;omega
theorem mT {n:Nat}:Sm n 0:=cV n
theorem cM {k x:Int} (h:VB k x):Wd (-1074) 2047 53 (BF.ta (BF.fm k) x):=by
 have sm:=BF.gL k;have ⟨a,b⟩:=BF.gi (BF.fm k) x h.2.1;have c:(2:Int)^((BF.fm k).m+1)≤2^53:=BF.gO Kf;have hS:0<BF.aU (BF.fm k):=BF.aX _;have x0:=Int.emod_nonneg x (Int.ne_of_gt hS);have x1:=Int.emod_lt_of_pos x hS;have hM:=BF.aX (BF.fm k).m;refine⟨a,Rc a Kf,?_⟩;unfold BF.ta;dsimp only;generalize x%BF.aU (BF.fm k)=X at *;have f0:0≤X/2^(BF.fm k).m:=Int.ediv_nonneg x0 (Int.le_of_lt hM);have f1:X/2^(BF.fm k).m<2048:=by
  refine Int.ediv_lt_of_lt_mul hM ?_;unfold BF.aU at x1;rw[ji] at x1;have c2:(2:Int)^(BF.fm k).e≤2^11:=BF.gO Kf;have:(2:Int)^(BF.fm k).e*2^(BF.fm k).m≤2^11*2^(BF.fm k).m:=i4 c2 (bo hM);omega
 split
 ·exact⟨J9,J9⟩
 ·split
  ·exact⟨by show (-1074:Int)≤0;decide,by show (0:Int)≤2047;decide⟩
  ·split
   ·simp only[BF.bN];omega
   ·simp only[BF.bN];omega
theorem tx {l1 h1 l2 h2:Int} {s1 s2:Nat} {u v:BF.Ex} (hu:Wd l1 h1 s1 u) (hv:Wd l2 h2 s2 v) (hl:l1+l2≤0) (hh:0≤h1+h2):Wd (l1+l2) (h1+h2) (s1+s2) (BF.gr u v):=by
 unfold BF.gr;split
 ·exact⟨J9,mT,by show _≤(0:Int);omega,by show (0:Int)≤_;omega⟩
 ·split
  ·split
   ·exact⟨J9,mT,by show _≤(0:Int);omega,by show (0:Int)≤_;omega⟩
   ·exact⟨by show (0:Int)≤0;decide,mT,by show _≤(0:Int);omega,by show (0:Int)≤_;omega⟩
  ·have a:=hu.2.2;have b:=hv.2.2;exact⟨fE hu.1 hv.1,Sm.mul hu.2.1 hv.2.1,by show _≤u.power+v.power;omega,by show u.power+v.power≤_;omega⟩
theorem AH {lo hi:Int} {sz:Nat} {u:BF.Ex} (hu:Wd lo hi sz u) {p:Int} (h1:lo≤p) (h2:p≤u.power):Sm (sz+(hi-lo).toNat) (BF.cnt u p):=by
 have a:Sm (sz+(u.power-p).toNat) (u.size*2^(u.power-p).toNat):=Sm.shl hu.2.1;have b:Sm (sz+(hi-lo).toNat) (u.size*2^(u.power-p).toNat):=a.mono (by have:=hu.2.2;omega);unfold BF.cnt BF.eH;split
 ·exact b.neg
 ·exact b
theorem wV {lo hi:Int} {sz:Nat} {m:Lw.Mode} {u v:BF.Ex} (hu:Wd lo hi sz u) (hv:Wd lo hi sz v) (hl:lo≤0) (hh:0≤hi):Wd lo hi (sz+(hi-lo).toNat+1) (BF.cG m u v):=by
 have a:=hu.2.2;have b:=hv.2.2;unfold BF.cG;split
 ·exact⟨J9,mT,by show _≤(0:Int);omega,by show (0:Int)≤_;omega⟩
 ·split
  ·exact⟨J9,mT,by show _≤(0:Int);omega,by show (0:Int)≤_;omega⟩
  ·split
   ·split
    ·exact hu.mono Kf Kf Kf
    ·exact hv.mono Kf Kf Kf
   ·dsimp only;split
    ·exact⟨by show (0:Int)≤0;decide,mT,by show _≤min u.power v.power;omega,by show min u.power v.power≤_;omega⟩
    ·refine⟨by show (0:Int)≤((_:Nat):Int);omega,?_,by show _≤min u.power v.power;omega,by show min u.power v.power≤_;omega⟩;have c:=Sm.add (AH hu (p:=min u.power v.power) Kf Kf) (AH hv (p:=min u.power v.power) Kf Kf);exact c.le (by show (((_:Nat):Int)).natAbs≤_;omega)
theorem bY {k:Int} {X:Nat} (h:VB k (X:Int)):X<2*(BF.fm k).sign:=by
 have:=BF.dX (BF.fm k);have:=h.2.2;omega
theorem ir {k:Int} (hk:VK k) {x:Nat} (h:x<2*(BF.fm k).sign):VB k (x:Int):=by
 have:=BF.dX (BF.fm k);exact⟨hk,Kf,Kf⟩
theorem Uj {k:Int} (hk:VK k) {x:Nat} (h:BF.Out (BF.fm k) x):VB k (x:Int):=ir hk (BF.ez (BF.dk k) h)
theorem size_pos {u:BF.Ex} (hu:0≤u.size) (h:u.nan=false) (h2:u.inf=false) (h3:BF.bC u=false):0<u.size:=by
 unfold BF.bC at h3;rw[h,h2] at h3;have:¬u.size=0:=fun z=>by rw[z] at h3;exact absurd h3 J9
 omega
theorem zh {u v:BF.Ex} (hu:Wd (-1074) 2047 53 u) (hv:Wd (-1074) 2047 53 v) (v0:0<v.size):Sm 3174 ((BF.cnt u (min u.power v.power)).natAbs:Int)∧Sm 3174 ((BF.cnt v (min u.power v.power)).natAbs:Int) ∧
  0<((BF.cnt v (min u.power v.power)).natAbs:Int)∧Sm 3200 (BF.wq .near false ((BF.cnt u (min u.power v.power)).natAbs:Int) ((BF.cnt v (min u.power v.power)).natAbs:Int)):=by
 have pu:=hu.2.2;have pv':=hv.2.2;have cu:=AH hu (p:=min u.power v.power) Kf Kf;have cv:=AH hv (p:=min u.power v.power) Kf Kf;have dp:0<((BF.cnt v (min u.power v.power)).natAbs:Int):=by rw[(BF.o7 Kf (bo v0)).2];exact pS v0 (BF.aX _)
 have n0:0≤((BF.cnt u (min u.power v.power)).natAbs:Int):=by omega
 have sn:Sm 3174 ((BF.cnt u (min u.power v.power)).natAbs:Int):=cu.le Kf;refine⟨sn,cv.le Kf,dp,?_⟩;have q1:=mh ((BF.cnt v (min u.power v.power)).natAbs:Int) n0;have q0:=f7 n0 (bo dp);rcases BF.xR .near false ((BF.cnt u (min u.power v.power)).natAbs:Int) ((BF.cnt v (min u.power v.power)).natAbs:Int) with e | ⟨e,_⟩
 ·rw[e];exact(sn.le Kf).mono J9
 ·rw[e];exact(Sm.add (sn.le (show _≤_ by omega)) (show Sm 3174 1 from b6 J9 J9)).mono J9
theorem Rf {u v:BF.Ex} (hu:Wd (-1074) 2047 53 u) (hv:Wd (-1074) 2047 53 v) (v0:0<v.size):PB (BF.rJ u v):=by
 have ⟨a,b,c,d⟩:=zh hu hv v0;have pu:=hu.2.2;have pv':=hv.2.2;have e:Sm 6375 (((BF.cnt u (min u.power v.power)).natAbs:Int)-((BF.cnt v (min u.power v.power)).natAbs:Int)*BF.wq .near false ((BF.cnt u (min u.power v.power)).natAbs:Int) ((BF.cnt v (min u.power v.power)).natAbs:Int)):=by
  rw[Int.sub_eq_add_neg];exact Sm.add (a.mono J9) (Sm.mul b d).neg
 unfold BF.rJ;dsimp only;split
 ·next z=>exact⟨by show (0:Int)≤-_;omega,(Sm.neg e).mono J9,by show -8800≤min u.power v.power;omega,by show min u.power v.power≤9000;omega⟩
 ·next z=>exact⟨by show (0:Int)≤_-_;omega,e.mono J9,by show -8800≤min u.power v.power;omega,by show min u.power v.power≤9000;omega⟩
theorem Xy {m:Lw.Mode} {u:BF.Ex} (h:Wd (-1074) 2047 53 u):Sm 2101 (BF.dn m u):=by
 unfold BF.dn;split
 ·exact(Sm.shl h.2.1).mono (by have:=h.2.2;omega)
 ·rcases BF.xR m u.neg u.size (2^(-u.power).toNat) with e | ⟨e,_⟩
  ·rw[e];have a:=mh (2^(-u.power).toNat) h.1;have b:=f7 h.1 (bo (BF.aX (-u.power).toNat));exact(h.2.1.mono J9).le Kf
  ·rw[e];have a:=mh (2^(-u.power).toNat) h.1;have b:=f7 h.1 (bo (BF.aX (-u.power).toNat));have c:Sm 53 (u.size/2^(-u.power).toNat):=h.2.1.le Kf;exact(Sm.add c (show Sm 53 1 by unfold Sm;decide)).mono J9
section
variable {P:Program} {w:World} {K:aP} {mg:Str→Option Value} {base:Heap} {C C2 C3:Addr}
def Ox (K:aP) (C:Addr):Sp:=fun vs H Q _=>∃k m x y,vs=[.int k,.int m,.int x,.int y]∧(VM m∧VB k x∧VB k y)∧Q (.int ((BF.fm k).add (BF.md m) x.toNat y.toNat:Nat)) H
theorem Oy:aD ["kind","mode","a","b"] ["kind","mode","a","b"] (ay (top 53)):=bz
theorem wW (ak:Ev K mg C C2 C3):cw P w K mg base "added" ["kind","mode","a","b"] 5 (Ox K C):=by
 have T:=ak.T;refine bc (ak.df 35) Oy qS (qT fun f bw A outer s H Q E hr k m x y h=>?_);obtain⟨⟨hm,hx,hy⟩,q⟩:=h;obtain⟨X,rfl⟩:=aA hx.2.1;obtain⟨Y,rfl⟩:=aA hy.2.1;refine⟨_,aj (aq (pf (gf ak) hr (aa (pv 0) (aa (pv 1) (aa (pf (wQ ak) hr (aa (pf (bA ak) hr (aa (pv 0) (aa (pv 2) (ae)))) (aa (pf (bA ak) hr (aa (pv 0) (aa (pv 3) (ae)))) (aa (pv 1) (ae))))) (ae)))))),ax rfl rfl rfl rfl (bG rfl ?p1 (fun a1 H1 s1 x1=>br rfl rfl rfl ?p2 (fun a2 H2 s2 x2=>bg rfl (jY rfl ((x1).same s2) ⟨(x2),?p3,fun a3 H3 s3 x3=>gj rfl (x3) ?p4 ⟨((s1).trans s2).trans s3,?r1⟩⟩))))⟩
 case p1=>exact hx
 case p2=>exact hy
 case p3=>exact⟨(cM hx).eb J9 J9 J9,(cM hy).eb J9 J9 J9,hm⟩
 case p4=>exact⟨hx.1,hm,(wV (cM hx) (cM hy) J9 J9).pb J9 J9 J9⟩
 case r1=>exact bD q (a7 _ (BF.add_eq _ _ (bY hx) (bY hy)))
def Cq (K:aP) (C:Addr):Sp:=fun vs H Q _=>∃k m x y,vs=[.int k,.int m,.int x,.int y]∧(VM m∧VB k x∧VB k y)∧Q (.int ((BF.fm k).sub (BF.md m) x.toNat y.toNat:Nat)) H
theorem Cr:aD ["kind","mode","a","b"] ["kind","mode","a","b"] (ay (top 54)):=bz
theorem ox (ak:Ev K mg C C2 C3):cw P w K mg base "subtracted" ["kind","mode","a","b"] 5 (Cq K C):=by
 have T:=ak.T;refine bc (ak.df 36) Cr qS (qT fun f bw A outer s H Q E hr k m x y h=>?_);obtain⟨⟨hm,hx,hy⟩,q⟩:=h;obtain⟨X,rfl⟩:=aA hx.2.1;obtain⟨Y,rfl⟩:=aA hy.2.1;refine⟨_,aj (aq (pf (gf ak) hr (aa (pv 0) (aa (pv 1) (aa (pf (wQ ak) hr (aa (pf (bA ak) hr (aa (pv 0) (aa (pv 2) (ae)))) (aa (pf (LF ak) hr (aa (pf (bA ak) hr (aa (pv 0) (aa (pv 3) (ae)))) (ae))) (aa (pv 1) (ae))))) (ae)))))),ax rfl rfl rfl rfl (bG rfl ?p1 (fun a1 H1 s1 x1=>br rfl rfl rfl ?p2 (fun a2 H2 s2 x2=>bJ rfl (x2) ?p3 (fun a3 H3 s3 x3=>bg rfl (jY rfl (((x1).same s2).same s3) ⟨(x3),?p4,fun a4 H4 s4 x4=>gj rfl (x4) ?p5 ⟨(((s1).trans s2).trans s3).trans s4,?r1⟩⟩)))))⟩
 case p1=>exact hx
 case p2=>exact hy
 case p3=>trivial
 case p4=>exact⟨(cM hx).eb J9 J9 J9,(show Wd _ _ _ (BF.Bw (BF.ta (BF.fm k) Y)) from cM hy).eb J9 J9 J9,hm⟩
 case p5=>exact⟨hx.1,hm,(wV (cM hx) (show Wd _ _ _ (BF.Bw (BF.ta (BF.fm k) Y)) from cM hy) J9 J9).pb J9 J9 J9⟩
 case r1=>exact bD q (a7 _ (BF.sub_eq _ _ (bY hx) (bY hy)))
def Cs (K:aP) (C:Addr):Sp:=fun vs H Q _=>∃k m x y,vs=[.int k,.int m,.int x,.int y]∧(VM m∧VB k x∧VB k y)∧Q (.int ((BF.fm k).mul (BF.md m) x.toNat y.toNat:Nat)) H
theorem Ct:aD ["kind","mode","a","b"] ["kind","mode","a","b"] (ay (top 55)):=bz
theorem jD (ak:Ev K mg C C2 C3):cw P w K mg base "multiplied" ["kind","mode","a","b"] 5 (Cs K C):=by
 have T:=ak.T;refine bc (ak.df 37) Ct qS (qT fun f bw A outer s H Q E hr k m x y h=>?_);obtain⟨⟨hm,hx,hy⟩,q⟩:=h;obtain⟨X,rfl⟩:=aA hx.2.1;obtain⟨Y,rfl⟩:=aA hy.2.1;refine⟨_,aj (aq (pf (gf ak) hr (aa (pv 0) (aa (pv 1) (aa (pf (Cm ak) hr (aa (pf (bA ak) hr (aa (pv 0) (aa (pv 2) (ae)))) (aa (pf (bA ak) hr (aa (pv 0) (aa (pv 3) (ae)))) (ae)))) (ae)))))),ax rfl rfl rfl rfl (bG rfl ?p1 (fun a1 H1 s1 x1=>br rfl rfl rfl ?p2 (fun a2 H2 s2 x2=>il rfl ((x1).same s2) (x2) ?p3 (fun a3 H3 s3 x3=>gj rfl (x3) ?p4 ⟨((s1).trans s2).trans s3,?r1⟩))))⟩
 case p1=>exact hx
 case p2=>exact hy
 case p3=>exact⟨(cM hx).eb J9 J9 J9,(cM hy).eb J9 J9 J9⟩
 case p4=>exact⟨hx.1,hm,(tx (cM hx) (cM hy) J9 J9).pb J9 J9 J9⟩
 case r1=>exact bD q (a7 _ (BF.mul_eq _ _ (bY hx) (bY hy)))
def Oz (K:aP) (C:Addr):Sp:=fun vs H Q _=>∃k m x y z,vs=[.int k,.int m,.int x,.int y,.int z]∧(VM m∧VB k x∧VB k y∧VB k z)∧Q (.int ((BF.fm k).fma (BF.md m) x.toNat y.toNat z.toNat:Nat)) H
theorem Fw:aD ["kind","mode","a","b","c","product"] ["kind","mode","a","b","c"] (ay (top 64)):=bz
theorem rW (ak:Ev K mg C C2 C3):cw P w K mg base "fused" ["kind","mode","a","b","c"] 5 (Oz K C):=by
 have T:=ak.T;refine bc (ak.df 46) Fw B0 (B3 fun f bw A outer s H Q E hr k m x y z h=>?_);obtain⟨⟨hm,hx,hy,hz⟩,q⟩:=h;obtain⟨X,rfl⟩:=aA hx.2.1;obtain⟨Y,rfl⟩:=aA hy.2.1;obtain⟨Z,rfl⟩:=aA hz.2.1;refine⟨_,ah (sv 5 Fw.nd (pf (Cm ak) hr (aa (pf (bA ak) hr (aa (pv 0) (aa (pv 2) (ae)))) (aa (pf (bA ak) hr (aa (pv 0) (aa (pv 3) (ae)))) (ae))))) (aj (aq (pf (gf ak) hr (aa (pv 0) (aa (pv 1) (aa (pf (wQ ak) hr (aa (pv 5) (aa (pf (bA ak) hr (aa (pv 0) (aa (pv 4) (ae)))) (aa (pv 1) (ae))))) (ae))))))),br rfl rfl rfl ?p1 (fun a1 H1 s1 x1=>br rfl rfl rfl ?p2 (fun a2 H2 s2 x2=>il rfl ((x1).same s2) (x2) ?p3 (fun a3 H3 s3 x3=>ax rfl rfl rfl rfl (bP rfl rfl ?p4 (fun a4 H4 s4 x4=>bg rfl (jY rfl ((x3).same s4) ⟨(x4),?p5,fun a5 H5 s5 x5=>gj rfl (x5) ?p6 ⟨((((s1).trans s2).trans s3).trans s4).trans s5,?r1⟩⟩))))))⟩
 case p1=>exact hx
 case p2=>exact hy
 case p3=>exact⟨(cM hx).eb J9 J9 J9,(cM hy).eb J9 J9 J9⟩
 case p4=>exact hz
 case p5=>exact⟨(tx (cM hx) (cM hy) J9 J9).eb J9 J9 J9,(cM hz).eb J9 J9 J9,hm⟩
 case p6=>exact⟨hx.1,hm,(wV (tx (cM hx) (cM hy) J9 J9) ((cM hz).mono J9 J9 J9) J9 J9).pb J9 J9 J9⟩
 case r1=>exact bD q (a7 _ (BF.Tz _ _ (bY hx) (bY hy) (bY hz)))
def LG (K:aP) (C:Addr):Sp:=fun vs H Q _=>∃k m x e,vs=[.int k,.int m,.int x,.int e]∧(VM m∧VB k x∧-5000≤e∧e≤5000)∧Q (.int ((BF.fm k).scale (BF.md m) x.toNat e:Nat)) H
theorem LH:aD ["kind","mode","a","k"] ["kind","mode","a","k"] (ay (top 65)):=bz
theorem yg (ak:Ev K mg C C2 C3):cw P w K mg base "scaled" ["kind","mode","a","k"] 5 (LG K C):=by
 have T:=ak.T;refine bc (ak.df 47) LH qS (qT fun f bw A outer s H Q E hr k m x e h=>?_);obtain⟨⟨hm,hx,he⟩,q⟩:=h;obtain⟨X,rfl⟩:=aA hx.2.1;refine⟨_,aj (aq (pf (gf ak) hr (aa (pv 0) (aa (pv 1) (aa (pf (mR ak) hr (aa (pf (bA ak) hr (aa (pv 0) (aa (pv 2) (ae)))) (aa (pv 3) (ae)))) (ae)))))),ax rfl rfl rfl rfl (bG rfl ?p1 (fun a1 H1 s1 x1=>bg rfl (jr rfl (x1) ?p2 (fun a2 H2 s2 x2=>gj rfl (x2) ?p3 ⟨(s1).trans s2,?r1⟩))))⟩
 case p1=>exact hx
 case p2=>trivial
 case p3 =>
  have h:=cM hx;exact⟨hx.1,hm,h.1,h.2.1.mono J9,by have:=h.2.2;show -8800≤(BF.ta (BF.fm k) X).power+e;omega,by have:=h.2.2;show (BF.ta (BF.fm k) X).power+e≤9000;omega⟩
 case r1=>exact bD q (a7 _ (BF.NN _ _ _ (bY hx)))
def D9 (K:aP) (C:Addr):Sp:=fun vs H Q _=>∃j k m x,vs=[.int j,.int k,.int m,.int x]∧(VM m∧VK k∧VB j x)∧Q (.int ((BF.fm j).to (BF.fm k) (BF.md m) x.toNat:Nat)) H
theorem Ea:aD ["from_kind","to_kind","mode","a"] ["from_kind","to_kind","mode","a"] (ay (top 66)):=bz
theorem lY (ak:Ev K mg C C2 C3):cw P w K mg base "converted" ["from_kind","to_kind","mode","a"] 5 (D9 K C):=by
 have T:=ak.T;refine bc (ak.df 48) Ea qS (qT fun f bw A outer s H Q E hr j k m x h=>?_);obtain⟨⟨hm,hk,hx⟩,q⟩:=h;obtain⟨X,rfl⟩:=aA hx.2.1;refine⟨_,aj (aq (pf (gf ak) hr (aa (pv 1) (aa (pv 2) (aa (pf (bA ak) hr (aa (pv 0) (aa (pv 3) (ae)))) (ae)))))),ax rfl rfl rfl rfl (bG rfl ?p1 (fun a1 H1 s1 x1=>gj rfl (x1) ?p2 ⟨s1,?r1⟩))⟩
 case p1=>exact hx
 case p2=>exact⟨hk,hm,(cM hx).pb J9 J9 J9⟩
 case r1=>exact bD q (a7 _ (BF.Qk _ _ _ (bY hx)))
def Cu (K:aP) (C:Addr):Sp:=fun vs H Q _=>∃k m z,vs=[.int k,.int m,.int z]∧(VM m∧VK k∧Sm 1000 z)∧Q (.int ((BF.fm k).ofInt (BF.md m) z:Nat)) H
theorem Cv:aD ["kind","mode","z"] ["kind","mode","z"] (ay (top 68)):=bz
theorem Eb (ak:Ev K mg C C2 C3):cw P w K mg base "from_whole" ["kind","mode","z"] 5 (Cu K C):=by
 have T:=ak.T;refine bc (ak.df 50) Cv lW (lX fun f bw A outer s H Q E hr k m z h=>?_);obtain⟨⟨hm,hk,hz⟩,q⟩:=h;refine⟨_,aj (aq (pf (gf ak) hr (aa (pv 0) (aa (pv 1) (aa (pf (rT ak) hr (aa (pv 2) (ae))) (ae)))))),aW rfl rfl rfl (eG rfl ?p1 (fun a1 H1 s1 x1=>gj rfl (x1) ?p2 ⟨s1,?r1⟩))⟩
 case p1=>trivial
 case p2=>exact⟨hk,hm,by show (0:Int)≤((_:Nat):Int);omega,(hz.mono J9).le (by show (((_:Nat):Int)).natAbs≤_;omega),by show (-8800:Int)≤0;decide,by show (0:Int)≤9000;decide⟩
 case r1=>exact bD q (a7 _ (BF.E8 _ _ _))
def Jm (K:aP) (C:Addr):Sp:=fun vs H Q _=>∃k m x y,vs=[.int k,.int m,.int x,.int y]∧(VM m∧VB k x∧VB k y)∧Q (.int ((BF.fm k).div (BF.md m) x.toNat y.toNat:Nat)) H
theorem n6:aD ["kind","mode","a","b","u","v","negative"] ["kind","mode","a","b"] (ay (top 56)):=bz
theorem Cw (ak:Ev K mg C C2 C3):cw P w K mg base "divided" ["kind","mode","a","b"] 5 (Jm K C):=by
 have T:=ak.T;refine bc (ak.df 38) n6 qS (qT fun f bw A outer s H Q E hr k m x y h=>?_);obtain⟨⟨hm,hx,hy⟩,q⟩:=h;obtain⟨X,rfl⟩:=aA hx.2.1;obtain⟨Y,rfl⟩:=aA hy.2.1;have hu:=cM hx;have hv:=cM hy;refine⟨_,ah (sv 4 n6.nd (pf (bA ak) hr (aa (pv 0) (aa (pv 2) (ae))))) (ah (sv 5 n6.nd (pf (bA ak) hr (aa (pv 0) (aa (pv 3) (ae))))) (ah (sv 6 n6.nd (iz AD (a8 T.ex .neg (pv 4)) (a8 T.ex .neg (pv 5)))) (ah (aS (cy (PW.pt (dj (aQ (a8 T.ex .nan (pv 4))) (dj (aQ (a8 T.ex .nan (pv 5))) (dj (PW.pt (kc (aQ (a8 T.ex .inf (pv 4))) (ka (aQ (a8 T.ex .inf (pv 5)))))) (dQ (PW.pt (kc (aQ (pf (fO ak) hr (aa (pv 4) (ae)))) (ka (aQ (pf (fO ak) hr (aa (pv 5) (ae))))))))))))) (aj (aq (pf (fu ak) hr (aa (pv 0) (ae))))) (aB)) (ah (aS (cy (PW.pt (dj (aQ (a8 T.ex .inf (pv 4))) (dQ (aQ (pf (fO ak) hr (aa (pv 5) (ae)))))))) (aj (aq (pf (fD ak) hr (aa (pv 0) (aa (pv 6) (aa (pf (cF ak) hr (aa (pv 0) (ae))) (ae))))))) (aB)) (ah (aS (aQ (a8 T.ex .inf (pv 5))) (aj (aq (pf (fD ak) hr (aa (pv 0) (aa (pv 6) (aa (al) (ae))))))) (aB)) (aj (aq (pf (mQ ak) hr (aa (pv 0) (aa (pv 1) (aa (pv 6) (aa (a8 T.ex .size (pv 4)) (aa (a8 T.ex .size (pv 5)) (aa (aH dm (a8 T.ex .power (pv 4)) (a8 T.ex .power (pv 5))) (ae))))))))))))))),br rfl rfl rfl ?p1 (fun a1 H1 s1 x1=>br rfl rfl rfl ?p2 (fun a2 H2 s2 x2=>ax rfl rfl ((x1).same s2) rfl (br rfl (x2) rfl rfl ⟨((BF.ta (BF.fm k) X).nan||(BF.ta (BF.fm k) Y).nan||((BF.ta (BF.fm k) X).inf&&(BF.ta (BF.fm k) Y).inf)||(BF.bC (BF.ta (BF.fm k) X)&&BF.bC (BF.ta (BF.fm k) Y))),ax rfl rfl ((x1).same s2) rfl (aK (fun h2=>?d1) (fun h2=>ax rfl rfl (x2) rfl (aK (fun h3=>?d2) (fun h3=>ax rfl rfl ((x1).same s2) rfl (aK (fun h5=>ax rfl rfl (x2) rfl (aK (fun h4=>?d3) (fun h4=>eJ rfl rfl ((x1).same s2) ?p3 (bg rfl (aK (fun h6=>eJ rfl rfl (x2) ?p4 (bg rfl ?d4)) (fun h6=>?d5)))))) (fun h5=>aK (fun h4=>?d6) (fun h4=>eJ rfl rfl ((x1).same s2) ?p5 (bg rfl (aK (fun h7=>eJ rfl rfl (x2) ?p6 (bg rfl ?d7)) (fun h7=>?d8)))))))))),aK (fun h1=>cP rfl rfl ?p7 ⟨(s1).trans s2,?r1⟩) (fun h1=>⟨((BF.ta (BF.fm k) X).inf||BF.bC (BF.ta (BF.fm k) Y)),ax rfl rfl ((x1).same s2) rfl (aK (fun h9=>?d9) (fun h9=>eJ rfl rfl (x2) ?p8 (bg rfl ?IV))),aK (fun h8=>aW rfl rfl rfl (eG rfl ?p9 (eZ rfl ?Ci ⟨(s1).trans s2,?r2⟩))) (fun h8=>ax rfl rfl (x2) rfl (aK (fun tT=>aR rfl rfl (eZ rfl ?Ec ⟨(s1).trans s2,?r3⟩)) (fun tT=>ax rfl rfl rfl rfl (ax rfl ((x1).same s2) rfl rfl (ax (x2) rfl rfl ((x1).same s2) (aW rfl rfl (x2) (bG rfl rfl ⟨_,_,_,_,_,_,rfl,?Cy,⟨(s1).trans s2,?r4⟩⟩)))))))⟩)⟩)))⟩
 all_goals try trivial
 all_goals try exact hx
 all_goals try exact hx.1
 all_goals try exact hy
 all_goals try (refine⟨?_,rfl⟩;simp[*])
 all_goals try (refine bD q ?_;rw[aN,aN,BF.div_eq _ (BF.dk k) _ (bY hx) (bY hy)];unfold BF.Qn)
 case r1=>rw[ao (by assumption)]
 case r2=>rw[ag (by assumption),ao (by assumption)]
 case r3=>rw[ag (by assumption),ag (by assumption),ao (by assumption)]
 case r4=>rw[ag (by assumption),ag (by assumption),ag (by assumption)]
 case Cy=>exact⟨hx.1,hm,⟨hu.1,size_pos hv.1 (by simp_all) (by simp_all) (by simp_all)⟩,53,53,hu.2.1,hv.2.1,J9,by have:=hu.2.2;have:=hv.2.2;omega,by have:=hu.2.2;have:=hv.2.2;omega⟩
def OA (K:aP) (C:Addr):Sp:=fun vs H Q _=>∃k x,vs=[.int k,.int x]∧(VB k x)∧Q (.int (BF.place (BF.fm k) x)) H
theorem Fx:aD ["kind","a","size"] ["kind","a"] (ay (top 69)):=bz
theorem iO (ak:Ev K mg C C2 C3):cw P w K mg base "place" ["kind","a"] 3 (OA K C):=by
 have T:=ak.T;refine bc (ak.df 51) Fx lp (lr fun f bw A outer s H Q E hr k x h=>?_);obtain⟨hp,q⟩:=h;refine⟨_,ah (sv 2 Fx.nd (pf (fc ak) hr (aa (pv 0) (aa (pv 1) (ae))))) (ah (aS (b8 eX (pv 2) (pf (cF ak) hr (aa (pv 0) (ae)))) (aj (aq (aH bX (pf (cF ak) hr (aa (pv 0) (ae))) (al)))) (aB)) (aj (aq (cY (b9 (aQ (pf (dW ak) hr (aa (pv 0) (aa (pv 1) (ae))))) (aH dm (iB gn (pv 2)) (al)) (pv 2)))))),br rfl rfl rfl ?p1 (aR rfl rfl (eG rfl ?p2 (ck rfl rfl rfl (aK (fun h1=>cP rfl rfl ?p3 (bG rfl rfl ⟨aI.refl _,?r1⟩)) (fun h1=>⟨.int (BF.place (BF.fm k) x),bx rfl rfl rfl ?p4 rfl (aK (fun h2=>br rfl rfl rfl rfl ?d1) (fun h2=>bg rfl ?d2)),⟨aI.refl _,?r2⟩⟩)))))⟩
 case p1=>exact⟨hp.1,hp.2.1⟩
 case p2=>exact hp.1
 case p3=>exact hp.1
 case p4=>exact hp.1
 case r1=>exact bD q (by unfold BF.place;rw[ao (dt h1)])
 case d1=>exact⟨by unfold BF.place;rw[ag (df h1),ao (dt h2)],rfl⟩
 case d2=>exact⟨by unfold BF.place;rw[ag (df h1),ag (df h2)],rfl⟩
 case r2=>exact q
def Cz (K:aP) (C:Addr):Sp:=fun vs H Q _=>∃k x y,vs=[.int k,.int x,.int y]∧(VB k x∧VB k y)∧Q (.int (if BF.cp (BF.fm k) x=false then x else if BF.cp (BF.fm k) y=true then BF.nR (BF.fm k) else y)) H
theorem CA:aD ["kind","a","b"] ["kind","a","b"] (ay (top 61)):=bz
theorem uy (ak:Ev K mg C C2 C3):cw P w K mg base "the_number" ["kind","a","b"] 4 (Cz K C):=by
 have T:=ak.T;refine bc (ak.df 43) CA lW (lX fun f bw A outer s H Q E hr k x y h=>?_);obtain⟨hp,q⟩:=h;refine⟨_,ah (aS (iY (aQ (pf (fw ak) hr (aa (pv 0) (aa (pv 1) (ae)))))) (aj (aq (pv 1))) (aB)) (aj (aq (cY (b9 (aQ (pf (fw ak) hr (aa (pv 0) (aa (pv 2) (ae))))) (pf (fu ak) hr (aa (pv 0) (ae))) (pv 2))))),bx rfl rfl rfl ?p1 rfl (aK (fun h1=>bg rfl ⟨aI.refl _,?r1⟩) (fun h1=>⟨.int (if BF.cp (BF.fm k) x=false then x else if BF.cp (BF.fm k) y=true then BF.nR (BF.fm k) else y),bx rfl rfl rfl ?p2 rfl (aK (fun h2=>cP rfl rfl ?p3 ?d1) (fun h2=>bg rfl ?d2)),⟨aI.refl _,?r2⟩⟩))⟩
 case p1=>exact⟨hp.1.1,hp.1.2.1⟩
 case p2=>exact⟨hp.1.1,hp.2.2.1⟩
 case p3=>exact hp.1.1
 case r1=>exact bD q (by rw[ao (by simpa using h1)])
 case d1=>exact⟨by rw[ag (by simpa using h1),ao h2],rfl⟩
 case d2=>exact⟨by rw[ag (by simpa using h1),ag h2],rfl⟩
 case r2=>exact q
def LI (K:aP) (C:Addr):Sp:=fun vs H Q _=>∃k x y,vs=[.int k,.int x,.int y]∧(VB k x∧VB k y)∧Q (.int ((BF.fm k).min x.toNat y.toNat:Nat)) H
theorem LJ:aD ["kind","a","b"] ["kind","a","b"] (ay (top 59)):=bz
theorem OB (ak:Ev K mg C C2 C3):cw P w K mg base "lesser" ["kind","a","b"] 5 (LI K C):=by
 have T:=ak.T;refine bc (ak.df 41) LJ lW (lX fun f bw A outer s H Q E hr k x y h=>?_);obtain⟨⟨hx,hy⟩,q⟩:=h;obtain⟨X,rfl⟩:=aA hx.2.1;obtain⟨Y,rfl⟩:=aA hy.2.1;refine⟨_,ah (aS (cy (PW.pt (dj (aQ (pf (fw ak) hr (aa (pv 0) (aa (pv 1) (ae))))) (dQ (aQ (pf (fw ak) hr (aa (pv 0) (aa (pv 2) (ae))))))))) (aj (aq (pf (uy ak) hr (aa (pv 0) (aa (pv 1) (aa (pv 2) (ae))))))) (aB)) (aj (aq (cY (b9 (b8 AX (pf (iO ak) hr (aa (pv 0) (aa (pv 1) (ae)))) (pf (iO ak) hr (aa (pv 0) (aa (pv 2) (ae))))) (pv 1) (pv 2))))),⟨(BF.cp (BF.fm k) X||BF.cp (BF.fm k) Y),bx rfl rfl rfl ?p1 rfl (aK (fun h2=>?d1) (fun h2=>bx rfl rfl rfl ?p2 rfl ?d2)),aK (fun h1=>aW rfl rfl rfl (eZ rfl ?p3 ⟨aI.refl _,?r1⟩)) (fun h1=>⟨.int (if BF.place (BF.fm k) X≤BF.place (BF.fm k) Y then (X:Int) else Y),bx rfl rfl rfl ?p4 rfl (bP rfl rfl ?p5 (ck rfl rfl rfl (aK (fun h3=>bg rfl ?d3) (fun h3=>bg rfl ?d4)))),⟨aI.refl _,?r2⟩⟩)⟩⟩
 case p1=>exact⟨hx.1,hx.2.1⟩
 case p2=>exact⟨hx.1,hy.2.1⟩
 case p3=>exact⟨hx,hy⟩
 case p4=>exact hx
 case p5=>exact hy
 case d1=>exact⟨by rw[h2];rfl,rfl⟩
 case d2=>exact⟨by rw[aV _ |>.mp h2];rfl,rfl⟩
 case r1 =>
  refine bD q ?_;rw[aN,aN,BF.BB _ (BF.dk k) (bY hx) (bY hy),ao h1];split
  ·rfl
  ·split
   ·exact(BF.dM _).symm
   ·rfl
 case d3=>exact⟨by rw[ao (dt h3)],rfl⟩
 case d4=>exact⟨by rw[ag (df h3)],rfl⟩
 case r2 =>
  refine bD q ?_;rw[aN,aN,BF.BB _ (BF.dk k) (bY hx) (bY hy),ag h1];split<;>rfl
def Jn (K:aP) (C:Addr):Sp:=fun vs H Q _=>∃k x y,vs=[.int k,.int x,.int y]∧(VB k x∧VB k y)∧Q (.int ((BF.fm k).max x.toNat y.toNat:Nat)) H
theorem Jo:aD ["kind","a","b"] ["kind","a","b"] (ay (top 60)):=bz
theorem LK (ak:Ev K mg C C2 C3):cw P w K mg base "greater" ["kind","a","b"] 5 (Jn K C):=by
 have T:=ak.T;refine bc (ak.df 42) Jo lW (lX fun f bw A outer s H Q E hr k x y h=>?_);obtain⟨⟨hx,hy⟩,q⟩:=h;obtain⟨X,rfl⟩:=aA hx.2.1;obtain⟨Y,rfl⟩:=aA hy.2.1;refine⟨_,ah (aS (cy (PW.pt (dj (aQ (pf (fw ak) hr (aa (pv 0) (aa (pv 1) (ae))))) (dQ (aQ (pf (fw ak) hr (aa (pv 0) (aa (pv 2) (ae))))))))) (aj (aq (pf (uy ak) hr (aa (pv 0) (aa (pv 1) (aa (pv 2) (ae))))))) (aB)) (aj (aq (cY (b9 (b8 mv (pf (iO ak) hr (aa (pv 0) (aa (pv 1) (ae)))) (pf (iO ak) hr (aa (pv 0) (aa (pv 2) (ae))))) (pv 1) (pv 2))))),⟨(BF.cp (BF.fm k) X||BF.cp (BF.fm k) Y),bx rfl rfl rfl ?p1 rfl (aK (fun h2=>?d1) (fun h2=>bx rfl rfl rfl ?p2 rfl ?d2)),aK (fun h1=>aW rfl rfl rfl (eZ rfl ?p3 ⟨aI.refl _,?r1⟩)) (fun h1=>⟨.int (if BF.place (BF.fm k) Y≤BF.place (BF.fm k) X then (X:Int) else Y),bx rfl rfl rfl ?p4 rfl (bP rfl rfl ?p5 (ck rfl rfl rfl (aK (fun h3=>bg rfl ?d3) (fun h3=>bg rfl ?d4)))),⟨aI.refl _,?r2⟩⟩)⟩⟩
 case p1=>exact⟨hx.1,hx.2.1⟩
 case p2=>exact⟨hx.1,hy.2.1⟩
 case p3=>exact⟨hx,hy⟩
 case p4=>exact hx
 case p5=>exact hy
 case d1=>exact⟨by rw[h2];rfl,rfl⟩
 case d2=>exact⟨by rw[aV _ |>.mp h2];rfl,rfl⟩
 case r1 =>
  refine bD q ?_;rw[aN,aN,BF.yO _ (BF.dk k) (bY hx) (bY hy),ao h1];split
  ·rfl
  ·split
   ·exact(BF.dM _).symm
   ·rfl
 case d3=>exact⟨by rw[ao (dt h3)],rfl⟩
 case d4=>exact⟨by rw[ag (df h3)],rfl⟩
 case r2 =>
  refine bD q ?_;rw[aN,aN,BF.yO _ (BF.dk k) (bY hx) (bY hy),ag h1];split<;>rfl
def LL (K:aP) (C:Addr):Sp:=fun vs H Q _=>∃k x neg,vs=[.int k,.int x,.bl neg]∧(VB k x)∧Q (.int (BF.ic (BF.fm k) x neg)) H
theorem LM:aD ["kind","a","negative"] ["kind","a","negative"] (ay (top 62)):=bz
theorem tD (ak:Ev K mg C C2 C3):cw P w K mg base "signed" ["kind","a","negative"] 4 (LL K C):=by
 have T:=ak.T;refine bc (ak.df 44) LM lW (lX fun f bw A outer s H Q E hr k x neg h=>?_);obtain⟨hp,q⟩:=h;refine⟨_,ah (aS (aQ (pf (fw ak) hr (aa (pv 0) (aa (pv 1) (ae))))) (aj (aq (pf (fu ak) hr (aa (pv 0) (ae))))) (aB)) (aj (aq (pf (fD ak) hr (aa (pv 0) (aa (pv 2) (aa (pf (fc ak) hr (aa (pv 0) (aa (pv 1) (ae)))) (ae))))))),bx rfl rfl rfl ?p1 rfl (aK (fun h1=>cP rfl rfl ?p2 ⟨aI.refl _,?r1⟩) (fun h1=>ax rfl rfl rfl rfl (bG rfl ?p3 (eZ rfl ?p4 ⟨aI.refl _,?r2⟩))))⟩
 case p1=>exact⟨hp.1,hp.2.1⟩
 case p2=>exact hp.1
 case p3=>exact⟨hp.1,hp.2.1⟩
 case p4=>exact hp.1
 case r1=>exact bD q (by unfold BF.ic;rw[ao h1])
 case r2=>exact bD q (by unfold BF.ic;rw[ag h1])
def yh (K:aP) (C:Addr):Sp:=fun vs H Q _=>∃k m x,vs=[.int k,.int m,.int x]∧(VM m∧VB k x)∧Q (.int ((BF.fm k).toWhole (BF.md m) x.toNat:Nat)) H
theorem pC:aD ["kind","mode","a","u"] ["kind","mode","a"] (ay (top 63)):=bz
theorem zT (ak:Ev K mg C C2 C3):cw P w K mg base "whole_number" ["kind","mode","a"] 5 (yh K C):=by
 have T:=ak.T;refine bc (ak.df 45) pC lW (lX fun f bw A outer s H Q E hr k m x h=>?_);obtain⟨⟨hm,hx⟩,q⟩:=h;obtain⟨X,rfl⟩:=aA hx.2.1;have hu:=cM hx;have hw:=BF.mH (BF.md m) hu.1;refine⟨_,ah (sv 3 pC.nd (pf (bA ak) hr (aa (pv 0) (aa (pv 2) (ae))))) (ah (aS (cy (PW.pt (dj (aQ (a8 T.ex .nan (pv 3))) (dQ (aQ (a8 T.ex .inf (pv 3))))))) (aj (aq (pf (gf ak) hr (aa (pv 0) (aa (pv 1) (aa (pv 3) (ae))))))) (aB)) (aj (aq (pf (gf ak) hr (aa (pv 0) (aa (pv 1) (aa (pf (gM ak) hr (aa (a8 T.ex .neg (pv 3)) (aa (pf (ux ak) hr (aa (pv 3) (aa (pv 1) (ae)))) (aa (al) (ae))))) (ae)))))))),br rfl rfl rfl ?p1 (fun a1 H1 s1 x1=>⟨((BF.ta (BF.fm k) X).nan||(BF.ta (BF.fm k) X).inf),ax rfl rfl (x1) rfl (aK (fun h2=>?d1) (fun h2=>ax rfl rfl (x1) rfl ?d2)),aK (fun h1=>aW rfl rfl rfl (gj rfl (x1) ?p2 ⟨s1,?r1⟩)) (fun h1=>ax rfl rfl rfl rfl (aW (x1) rfl rfl (jr rfl (x1) ?p3 (eZ rfl ?p4 (fun a2 H2 s2 x2=>gj rfl (x2) ?p5 ⟨(s1).trans s2,?r2⟩)))))⟩)⟩
 all_goals try trivial
 case d1=>exact⟨by rw[h2];rfl,rfl⟩
 case d2=>exact⟨by rw[aV _ |>.mp h2];rfl,rfl⟩
 case p2=>exact⟨hx.1,hm,hu.pb J9 J9 J9⟩
 case r1=>exact bD q (a7 _ (by rw[aN,BF.yQ _ (BF.dk k) _ (bY hx),ao h1]))
 case p3=>exact⟨hm,hu.pb J9 J9 J9⟩
 case p5 =>
  refine⟨hx.1,hm,hw.2,?_,by show (-8800:Int)≤0;decide,by show (0:Int)≤9000;decide⟩;exact(Xy hu).mono J9
 case r2=>exact bD q (a7 _ (by rw[aN,BF.yQ _ (BF.dk k) _ (bY hx),ag h1]))
def GN (K:aP) (C:Addr):Sp:=fun vs H Q _=>∃k h x y,vs=[.int k,.int h,.int x,.int y]∧(VB k x∧VB k y∧0≤h)∧Q (.int (BF.E7 (BF.fm k) h.toNat x y)) H
theorem GO:aD ["kind","how","a","b"] ["kind","how","a","b"] (ay (top 70)):=bz
theorem Jp (ak:Ev K mg C C2 C3):cw P w K mg base "compared" ["kind","how","a","b"] 4 (GN K C):=by
 have T:=ak.T;refine bc (ak.df 52) GO qS (qT fun f bw A outer s H Q E hr k h x y h=>?_);obtain⟨⟨hx,hy,hh⟩,q⟩:=h;refine⟨_,ah (aS (cy (PW.pt (kc (b8 bp (pv 1) (al)) (ka (PW.pt (dj (aQ (pf (fw ak) hr (aa (pv 0) (aa (pv 2) (ae))))) (dQ (aQ (pf (fw ak) hr (aa (pv 0) (aa (pv 3) (ae)))))))))))) (aj (aq (aG T.Li rfl))) (aB)) (ah (aS (cy (PW.pt (kc (b8 bp (pv 1) (al)) (kc (aQ (pf (jc ak) hr (aa (pv 0) (aa (pv 2) (ae))))) (ka (aQ (pf (jc ak) hr (aa (pv 0) (aa (pv 3) (ae)))))))))) (aj (aq (al))) (aB)) (ah (aS (b8 bp (pf (iO ak) hr (aa (pv 0) (aa (pv 2) (ae)))) (pf (iO ak) hr (aa (pv 0) (aa (pv 3) (ae))))) (aj (aq (al))) (aB)) (aj (aq (cY (b9 (b8 jv (pf (iO ak) hr (aa (pv 0) (aa (pv 2) (ae)))) (pf (iO ak) hr (aa (pv 0) (aa (pv 3) (ae))))) (iB gn (al)) (al))))))),⟨(decide (h=0)&&(BF.cp (BF.fm k) x||BF.cp (BF.fm k) y)),aE rfl rfl rfl rfl (aK (fun h2=>bx rfl rfl rfl ?p1 rfl (aK (fun h3=>?d1) (fun h3=>bx rfl rfl rfl ?p2 rfl ?d2))) (fun h2=>?d3)),aK (fun h1=>⟨aI.refl _,?r1⟩) (fun h1=>⟨(decide (h=0)&&(BF.eA (BF.fm k) x&&BF.eA (BF.fm k) y)),aE rfl rfl rfl rfl (aK (fun h5=>bx rfl rfl rfl ?p3 rfl (aK (fun h6=>bx rfl rfl rfl ?p4 rfl ?d4) (fun h6=>?d5))) (fun h5=>?d6)),aK (fun h4=>⟨aI.refl _,?r2⟩) (fun h4=>bx rfl rfl rfl ?p5 rfl (bP rfl rfl ?p6 (ck rfl rfl rfl (aK (fun h7=>⟨aI.refl _,?r3⟩) (fun h7=>⟨.int (if BF.place (BF.fm k) x<BF.place (BF.fm k) y then -1 else 1),bx rfl rfl rfl ?p7 rfl (bP rfl rfl ?p8 (ck rfl rfl rfl (aK (fun h8=>bg rfl ?d7) (fun h8=>?d8)))),⟨aI.refl _,?r4⟩⟩)))))⟩)⟩⟩
 all_goals try exact⟨hx.1,hx.2.1⟩
 all_goals try exact⟨hx.1,hy.2.1⟩
 all_goals try exact hx
 all_goals try exact hy
 case d1=>exact⟨by rw[h2,h3];rfl,rfl⟩
 case d2=>exact⟨by rw[h2,aV _ |>.mp h3];rfl,rfl⟩
 case d3=>exact⟨by rw[aV _ |>.mp h2];rfl,rfl⟩
 case d4=>exact⟨by rw[h5,h6];rfl,rfl⟩
 case d5=>exact⟨by rw[h5,aV _ |>.mp h6];rfl,rfl⟩
 case d6=>exact⟨by rw[aV _ |>.mp h5];rfl,rfl⟩
 case d7=>exact⟨by rw[ao (dt h8)],rfl⟩
 case d8=>exact⟨by rw[ag (df h8)],rfl⟩
 all_goals simp only[cI,bj,bR] at h1
 all_goals refine bD q ?_
 all_goals unfold BF.E7
 case r1=>rw[ao ⟨Kf,h1.2⟩]
 all_goals simp only[cI,bj,bR] at h4
 all_goals rw[ag (show ¬(h.toNat=0∧(BF.cp (BF.fm k) x=true∨BF.cp (BF.fm k) y=true)) from fun z=>h1 ⟨Kf,z.2⟩)]
 case r2=>rw[ao ⟨Kf,h4.2⟩]
 all_goals rw[ag (show ¬(h.toNat=0∧BF.eA (BF.fm k) x=true∧BF.eA (BF.fm k) y=true) from fun z=>h4 ⟨Kf,z.2⟩)]
 case r3=>rw[ao (dt h7)]
 case r4=>rw[ag (df h7)]
def CB (K:aP) (C:Addr):Sp:=fun vs H Q _=>∃a u b v,vs=[.ref a,.ref b]∧(eP C H a u)∧(eP C H b v)∧(Wd (-1074) 2047 53 u∧Wd (-1074) 2047 53 v∧0<v.size)∧∀a H',aI H H'→eP C H' a (BF.rJ u v)→Q (.ref a) H'
theorem jd:aD ["u","v","power","n","d","left"] ["u","v"] (ay (top 58)):=bz
theorem Ed (ak:Ev K mg C C2 C3):cw P w K mg base "exact_rest" ["u","v"] 4 (CB K C):=by
 have T:=ak.T;refine cQ (ak.df 40) jd qS (qT fun f bw A outer s H Q E hr a u b v h=>?_);obtain⟨o1,o2,⟨hu,hv,v0⟩,q⟩:=h;have emin:(if v.power<u.power then v.power else u.power)=min u.power v.power:=by split<;>omega
 have VT:∀z:Int,(if z<0 then -z else z)=(z.natAbs:Int):=fun z=>by split<;>omega
 have Xz:BF.md 0=Lw.Mode.near:=rfl;have pu:=hu.2.2;have pv':=hv.2.2;obtain⟨cu,cv,dp,sw⟩:=zh hu hv v0;refine⟨_,ah (sv 2 jd.nd (bW (uD rfl) rfl T.Ln boot_min (aa (a8 T.ex .power (pv 0)) (aa (a8 T.ex .power (pv 1)) (ae))))) (ah (sv 3 jd.nd (bW oQ rfl T.Cd boot_abs (aa (pf (qs ak) hr (aa (pv 0) (aa (pv 2) (ae)))) (ae)))) (ah (sv 4 jd.nd (bW oQ rfl T.Cd boot_abs (aa (pf (qs ak) hr (aa (pv 1) (aa (pv 2) (ae)))) (ae)))) (ah (sv 5 jd.nd (aH dm (pv 3) (aH cK (pv 4) (pf (iZ ak) hr (aa (aG T.e7 rfl) (aa (jJ) (aa (pv 3) (aa (pv 4) (ae))))))))) (ah (aS (b8 jv (pv 5) (al)) (aj (aq (pf (gM ak) hr (aa (pO (a8 T.ex .neg (pv 0))) (aa (iB gn (pv 5)) (aa (pv 2) (ae))))))) (aB)) (aj (aq (pf (gM ak) hr (aa (a8 T.ex .neg (pv 0)) (aa (pv 5) (aa (pv 2) (ae))))))))))),ax rfl rfl (o1) rfl (aR rfl (o2) ⟨_,_,rfl,aR rfl rfl (jr rfl (o1) ?p1 (bg rfl (aR rfl rfl (jr rfl (o2) ?p2 (bg rfl (ax rfl rfl rfl rfl (gJ rfl ?p3 (bJ rfl rfl ?c1 (bG rfl rfl (aE rfl rfl rfl rfl (aK (fun h1=>ax rfl rfl (o1) rfl (aW rfl rfl rfl (eZ rfl ?p4 (fun a1 H1 s1 x1=>q _ _ (s1) (gg (x1) ?r1))))) (fun h1=>ax rfl rfl (o1) rfl (bg rfl (eZ rfl ?p5 (fun a2 H2 s2 x2=>q _ _ (s2) (gg (x2) ?r2))))))))))))))))⟩)⟩
 all_goals try trivial
 all_goals rw[emin] at *
 all_goals try simp only[VT,Xz]
 case p1=>exact⟨hu.eb J9 J9 J9,Kf,Kf⟩
 case p2=>exact⟨hv.eb J9 J9 J9,Kf,Kf⟩
 case p3=>exact⟨⟨J9,J9⟩,⟨dp,cv.mono J9⟩,Kf,cu.mono J9⟩
 case c1=>exact⟨cv.mono J9,sw.mono J9⟩
 all_goals simp only[VT,Xz] at h1
 case r1 =>
  have e:=dt h1;unfold BF.rJ;dsimp only;rw[if_pos e]
 case r2 =>
  have e:=df h1;unfold BF.rJ;dsimp only;rw[if_neg e]
def Rg (K:aP) (C:Addr):Sp:=fun vs H Q _=>∃k x y,vs=[.int k,.int x,.int y]∧(VB k x∧VB k y)∧Q (.int ((BF.fm k).remainder x.toNat y.toNat:Nat)) H
theorem CC:aD ["kind","a","b","u","v"] ["kind","a","b"] (ay (top 57)):=bz
theorem Uk (ak:Ev K mg C C2 C3):cw P w K mg base "rest" ["kind","a","b"] 5 (Rg K C):=by
 have T:=ak.T;refine bc (ak.df 39) CC lW (lX fun f bw A outer s H Q E hr k x y h=>?_);obtain⟨⟨hx,hy⟩,q⟩:=h;obtain⟨X,rfl⟩:=aA hx.2.1;obtain⟨Y,rfl⟩:=aA hy.2.1;have hu:=cM hx;have hv:=cM hy;refine⟨_,ah (sv 3 CC.nd (pf (bA ak) hr (aa (pv 0) (aa (pv 1) (ae))))) (ah (sv 4 CC.nd (pf (bA ak) hr (aa (pv 0) (aa (pv 2) (ae))))) (ah (aS (cy (PW.pt (dj (aQ (a8 T.ex .nan (pv 3))) (dj (aQ (a8 T.ex .nan (pv 4))) (dj (aQ (a8 T.ex .inf (pv 3))) (dQ (aQ (pf (fO ak) hr (aa (pv 4) (ae)))))))))) (aj (aq (pf (fu ak) hr (aa (pv 0) (ae))))) (aB)) (ah (aS (aQ (a8 T.ex .inf (pv 4))) (aj (aq (pv 1))) (aB)) (aj (aq (pf (gf ak) hr (aa (pv 0) (aa (aG T.e7 rfl) (aa (pf (Ed ak) hr (aa (pv 3) (aa (pv 4) (ae)))) (ae)))))))))),br rfl rfl rfl ?p1 (fun a1 H1 s1 x1=>br rfl rfl rfl ?p2 (fun a2 H2 s2 x2=>⟨((BF.ta (BF.fm k) X).nan||(BF.ta (BF.fm k) Y).nan||(BF.ta (BF.fm k) X).inf||BF.bC (BF.ta (BF.fm k) Y)),ax rfl rfl ((x1).same s2) rfl (aK (fun h2=>?d1) (fun h2=>ax rfl rfl (x2) rfl (aK (fun h3=>?d2) (fun h3=>ax rfl rfl ((x1).same s2) rfl (aK (fun h4=>?d3) (fun h4=>eJ rfl rfl (x2) ?p3 (bg rfl ?d4))))))),aK (fun h1=>cP rfl rfl ?p4 ⟨(s1).trans s2,?r1⟩) (fun h1=>ax rfl rfl (x2) rfl (aK (fun h5=>bg rfl ⟨(s1).trans s2,?r2⟩) (fun h5=>aW rfl rfl rfl (il rfl ((x1).same s2) (x2) ?p5 (fun a3 H3 s3 x3=>gj rfl (x3) ?p6 ⟨((s1).trans s2).trans s3,?r3⟩)))))⟩))⟩
 all_goals try trivial
 all_goals try exact hx.1
 all_goals try (refine⟨?_,rfl⟩;simp[*])
 all_goals try (refine bD q ?_;rw[aN,aN,BF.rest_eq _ (BF.dk k) (bY hx) (bY hy)])
 case r1=>rw[ao (by assumption)];exact(BF.dM _).symm
 case r2=>rw[ag (by assumption),ao (by assumption)]
 case r3=>rw[ag (by assumption),ag (by assumption)];rfl
 all_goals have v0:0<(BF.ta (BF.fm k) Y).size:=size_pos hv.1 (by simp_all) (by simp_all) (by simp_all)
 case p5=>exact⟨hu,hv,v0⟩
 case p6=>exact⟨hx.1,⟨J9,J9⟩,Rf hu hv v0⟩
def CD (K:aP) (C:Addr):Sp:=fun vs H Q _=>∃k m b sg x,vs=[.int k,.int m,.int b,.bl sg,.int x]∧(VM m∧VB k x∧1≤b∧b≤48)∧Q (.int ((BF.fm k).toInt (BF.md m) b.toNat sg x.toNat)) H
theorem ku:aD ["kind","mode","width","has_sign","a","least","greatest","u"] ["kind","mode","width","has_sign","a"] (ay (top 67)):=bz
theorem Ee (ak:Ev K mg C C2 C3):cw P w K mg base "held_whole" ["kind","mode","width","has_sign","a"] 5 (CD K C):=by
 have T:=ak.T;refine bc (ak.df 49) ku B0 (B3 fun f bw A outer s H Q E hr k m b sg x h=>?_);obtain⟨⟨hm,hx,hb⟩,q⟩:=h;obtain⟨X,rfl⟩:=aA hx.2.1;have hu:=cM hx;have XA:Lw.least b.toNat sg+1*2^b.toNat-1=Lw.most b.toNat sg:=by
  unfold Lw.least Lw.most;obtain⟨j,hj⟩:∃j,b.toNat=j+1:=⟨b.toNat-1,Kf⟩;rw[hj,dc,lz,gy];cases sg<;>simp<;>omega
 refine⟨_,ah (sv 5 ku.nd (cY (b9 (aQ (pv 3)) (iB gn (aH dT (al) (aH dm (pv 2) (al)))) (al)))) (ah (sv 6 ku.nd (aH dm (aH bX (pv 5) (aH dT (al) (pv 2))) (al))) (ah (sv 7 ku.nd (pf (bA ak) hr (aa (pv 0) (aa (pv 4) (ae))))) (ah (aS (aQ (a8 T.ex .nan (pv 7))) (aj (aq (al))) (aB)) (ah (aS (aQ (a8 T.ex .inf (pv 7))) (aj (aq (cY (b9 (aQ (a8 T.ex .neg (pv 7))) (pv 5) (pv 6))))) (aB)) (aj (aq (bW (uD rfl) rfl T.Ln boot_min (aa (bW (pR rfl) rfl T.GC boot_max (aa (pf (rV ak) hr (aa (pv 7) (aa (pv 1) (ae)))) (aa (pv 5) (ae)))) (aa (pv 6) (ae)))))))))),⟨.int (Lw.least b.toNat sg),aR rfl rfl (aK (fun h1=>bP rfl rfl rfl (bJ rfl rfl ?c1 (bg rfl ?d1))) (fun h1=>?d2)),aR rfl rfl (bJ rfl rfl ?c2 (bG rfl rfl (bG rfl rfl (br rfl rfl rfl ?p1 (fun a1 H1 s1 x1=>ax rfl rfl (x1) rfl (aK (fun h2=>⟨s1,?r1⟩) (fun h2=>ax rfl rfl (x1) rfl (aK (fun h3=>⟨.int (if (BF.ta (BF.fm k) X).neg=true then Lw.least b.toNat sg else Lw.most b.toNat sg),ax rfl rfl (x1) rfl (aK (fun h4=>bg rfl ?d3) (fun h4=>bg rfl ?d4)),⟨s1,?r2⟩⟩) (fun h3=>aR rfl rfl (jr rfl (x1) ?p2 (bg rfl ⟨_,_,rfl,bg rfl ⟨_,_,rfl,⟨s1,?r3⟩⟩⟩)))))))))))⟩⟩
 case c1=>exact⟨Kf,Kf,b6 J9 J9⟩
 case c2=>exact⟨Kf,Kf,b6 J9 J9⟩
 case d1=>exact⟨by unfold Lw.least;rw[ao h1,dc];exact a7 _ (a7 _ (a7 _ Kf)),rfl⟩
 case d2=>exact⟨by unfold Lw.least;rw[ag h1],rfl⟩
 case p1=>exact hx
 case p2=>exact⟨hm,hu.pb J9 J9 J9⟩
 case d3=>exact⟨by rw[ao h4],rfl⟩
 case d4=>exact⟨by rw[ag h4];exact a7 V.int XA,rfl⟩
 all_goals refine bD q ?_
 all_goals rw[aN,BF.toInt_eq _ _ _ _ (bY hx)]
 case r1=>rw[ao h2]
 case r2=>rw[ag h2,ao h3]
 case r3 =>
  have hlm:Lw.least b.toNat sg≤Lw.most b.toNat sg:=by
   rw[←XA];have:=BF.aX b.toNat;omega
  rw[ag h2,ag h3];generalize BF.eH (BF.ta (BF.fm k) X).neg (BF.dn (BF.md m) (BF.ta (BF.fm k) X))=z;unfold Lw.held;rw[XA];split<;>split<;>(try split)<;>(try split)<;>omega
def Ef (K:aP) (C:Addr):Sp:=fun vs H Q _=>∃k n m x y,vs=[.int k,.int n,.int m,.int x,.int y]∧(VM m∧VB k x∧VB k y∧0≤n∧n≤10)∧Q (.int (BF.T2 (BF.fm k) (BF.md m) n x.toNat y.toNat:Nat)) H
theorem Eg:aD ["kind","number","mode","a","b"] ["kind","number","mode","a","b"] (ay (top 52)):=bz
theorem GP (ak:Ev K mg C C2 C3):cw P w K mg base "operation" ["kind","number","mode","a","b"] 6 (Ef K C):=by
 have T:=ak.T;refine bc (ak.df 34) Eg B0 (B3 fun f bw A outer s H Q E hr k n m x y h=>?_);obtain⟨⟨hm,hx,hy,hn⟩,q⟩:=h;obtain⟨X,rfl⟩:=aA hx.2.1;obtain⟨Y,rfl⟩:=aA hy.2.1;refine⟨_,ah (aS (b8 bp (pv 1) (al)) (aj (aq (pf (wW ak) hr (aa (pv 0) (aa (pv 2) (aa (pv 3) (aa (pv 4) (ae)))))))) (aB)) (ah (aS (b8 bp (pv 1) (al)) (aj (aq (pf (ox ak) hr (aa (pv 0) (aa (pv 2) (aa (pv 3) (aa (pv 4) (ae)))))))) (aB)) (ah (aS (b8 bp (pv 1) (al)) (aj (aq (pf (jD ak) hr (aa (pv 0) (aa (pv 2) (aa (pv 3) (aa (pv 4) (ae)))))))) (aB)) (ah (aS (b8 bp (pv 1) (al)) (aj (aq (pf (Cw ak) hr (aa (pv 0) (aa (pv 2) (aa (pv 3) (aa (pv 4) (ae)))))))) (aB)) (ah (aS (b8 bp (pv 1) (al)) (aj (aq (pf (Uk ak) hr (aa (pv 0) (aa (pv 3) (aa (pv 4) (ae))))))) (aB)) (ah (aS (b8 bp (pv 1) (al)) (aj (aq (pf (OB ak) hr (aa (pv 0) (aa (pv 3) (aa (pv 4) (ae))))))) (aB)) (ah (aS (b8 bp (pv 1) (al)) (aj (aq (pf (LK ak) hr (aa (pv 0) (aa (pv 3) (aa (pv 4) (ae))))))) (aB)) (ah (aS (b8 bp (pv 1) (al)) (aj (aq (pf (tD ak) hr (aa (pv 0) (aa (pv 3) (aa (jJ) (ae))))))) (aB)) (ah (aS (b8 bp (pv 1) (al)) (aj (aq (pf (tD ak) hr (aa (pv 0) (aa (pv 3) (aa (pO (pf (dW ak) hr (aa (pv 0) (aa (pv 3) (ae))))) (ae))))))) (aB)) (ah (aS (b8 bp (pv 1) (al)) (aj (aq (pf (tD ak) hr (aa (pv 0) (aa (pv 3) (aa (cY (lN (pf (dW ak) hr (aa (pv 0) (aa (pv 4) (ae)))) (jh (pO (pf (fw ak) hr (aa (pv 0) (aa (pv 4) (ae)))))))) (ae))))))) (aB)) (aj (aq (pf (zT ak) hr (aa (pv 0) (aa (pv 2) (aa (pv 3) (ae)))))))))))))))),aE rfl rfl rfl rfl (aK (fun h1=>ax rfl rfl rfl rfl (gJ rfl ?p1 ⟨aI.refl _,?r1⟩)) (fun h1=>aE rfl rfl rfl rfl (aK (fun h2=>ax rfl rfl rfl rfl (gJ rfl ?p2 ⟨aI.refl _,?r2⟩)) (fun h2=>aE rfl rfl rfl rfl (aK (fun h3=>ax rfl rfl rfl rfl (gJ rfl ?p3 ⟨aI.refl _,?r3⟩)) (fun h3=>aE rfl rfl rfl rfl (aK (fun h4=>ax rfl rfl rfl rfl (gJ rfl ?p4 ⟨aI.refl _,?r4⟩)) (fun h4=>aE rfl rfl rfl rfl (aK (fun h5=>aW rfl rfl rfl (eZ rfl ?p5 ⟨aI.refl _,?r5⟩)) (fun h5=>aE rfl rfl rfl rfl (aK (fun h6=>aW rfl rfl rfl (eZ rfl ?p6 ⟨aI.refl _,?r6⟩)) (fun h6=>aE rfl rfl rfl rfl (aK (fun h7=>aW rfl rfl rfl (eZ rfl ?p7 ⟨aI.refl _,?r7⟩)) (fun h7=>aE rfl rfl rfl rfl (aK (fun h8=>aR rfl rfl (eZ rfl ?p8 ⟨aI.refl _,?r8⟩)) (fun h8=>aE rfl rfl rfl rfl (aK (fun h9=>ax rfl rfl rfl rfl (ck rfl ?p9 rfl (eZ rfl ?Ci ⟨aI.refl _,?r9⟩))) (fun h9=>aE rfl rfl rfl rfl (aK (fun tT=>aR rfl rfl ⟨.bl (decide (BF.aU (BF.fm k)≤(Y:Int))&&!BF.cp (BF.fm k) Y),bx rfl rfl rfl ?Ec rfl (aK (fun Gs=>bx rfl rfl rfl ?Cy rfl ?d1) (fun Gs=>?d2)),eZ rfl ?LN ⟨aI.refl _,?Wt⟩⟩) (fun tT=>aW rfl rfl rfl (eZ rfl ?Jq ⟨aI.refl _,?r11⟩)))))))))))))))))))))⟩
 all_goals try exact hx.1
 all_goals try exact⟨hm,hx,hy⟩
 all_goals try exact⟨hx,hy⟩
 all_goals try exact hx
 all_goals try exact⟨hm,hx⟩
 all_goals try exact⟨hx.1,hy.2.1⟩
 case r1=>exact bD q (by rw[dt h1];rfl)
 case r2=>exact bD q (by rw[dt h2];rfl)
 case r3=>exact bD q (by rw[dt h3];rfl)
 case r4=>exact bD q (by rw[dt h4];rfl)
 case r5=>exact bD q (by rw[dt h5];rfl)
 case r6=>exact bD q (by rw[dt h6];rfl)
 case r7=>exact bD q (by rw[dt h7];rfl)
 case r8=>exact bD q (by rw[dt h8];exact(BF.abs_eq _ (bY hx)).symm)
 case r9=>exact bD q (by rw[dt h9];exact(BF.negate_eq _ (bY hx)).symm)
 case d1=>exact⟨by rw[Gs];rfl,rfl⟩
 case d2=>exact⟨by rw[aV _ |>.mp Gs];rfl,rfl⟩
 case Wt=>exact bD q (by rw[dt tT];exact(BF.KS _ (bY hx) (bY hy)).symm)
 case r11 =>
  have e:n=10:=by
   have:=df h1;have:=df h2;have:=df h3;have:=df h4;have:=df h5;have:=df h6;have:=df h7;have:=df h8;have:=df h9;have:=df tT;omega
  exact bD q (by rw[e];rfl)
end
theorem jn {x:Nat} (h:BF.Out Lw.D x):VB 3 (x:Int):=Uj (k:=3) ⟨J9,J9⟩ h
theorem lZ:VK 3:=⟨J9,J9⟩
theorem l0:VM 0:=⟨J9,J9⟩
theorem CF {m:Lw.Mode} {a b c:Nat}:BF.Out Lw.D (Lw.D.fma m a b c):=BF.fL _ BF.cH _ _ _
theorem Rh {m:Lw.Mode} {a b:Nat}:BF.Out Lw.D (Lw.D.add m a b):=BF.fL _ BF.cH _ _ _
theorem Jr {m:Lw.Mode} {a b:Nat}:BF.Out Lw.D (Lw.D.sub m a b):=BF.fL _ BF.cH _ _ _
theorem kv {m:Lw.Mode} {a b:Nat}:BF.Out Lw.D (Lw.D.mul m a b):=BF.fq _ BF.cH _ _
theorem LO {m:Lw.Mode} {a:Nat} {k:Int}:BF.Out Lw.D (Lw.D.scale m a k):=by
 unfold Lw.Fmt.scale;split
 ·exact BF.gd _ BF.cH
 ·exact BF.lh _ BF.cH _
 ·exact BF.lg _ BF.cH _ _ _
theorem CG {m:Lw.Mode} {a b:Nat}:BF.Out Lw.D (Lw.D.div m a b):=by
 unfold Lw.Fmt.div;split<;>(try split)<;>(try split)<;>first | exact BF.gd _ BF.cH | exact BF.lh _ BF.cH _ | exact BF.o4 _ BF.cH _ | exact BF.lg _ BF.cH _ _ _
theorem g8 {m:Lw.Mode} {z:Int}:BF.Out Lw.D (Lw.D.ofInt m z):=BF.lg _ BF.cH _ _ _
theorem Xz:BF.md 0=Lw.Mode.near:=rfl
theorem gU {α:Type} {t:TT} {tb:TS} {D:Ends} {σ:L2.St} {H:Hp} (Pv:α→L2.St→Hp→Prop) (μ:α→Nat) (a0:α) (h0:Pv a0 σ H)
  (hs:∀a σ H,Pv a σ H→∃c,t σ H (fun b H1=>b=c∧H1=H)∧if c=true then tb { D with nx:=fun σ' H'=>∃a',Pv a' σ' H'∧μ a'<μ a,ct:=fun σ' H'=>∃a',Pv a' σ' H'∧μ a'<μ a,bk:=D.nx } σ H else D.nx σ H) :
  Me (VQ t) tb D σ H:=by
 refine⟨fun m σ H=>∃a,m=μ a∧Pv a σ H,⟨_,a0,rfl,h0⟩,?_⟩;rintro m σ H ⟨a,rfl,p⟩;obtain⟨c,h1,q⟩:=hs a σ H p;refine⟨c,h1,?_⟩;cases c with
 | true=>exact⟨_,fun σ' H' ⟨a',p',l⟩=>⟨_,l,a',rfl,p'⟩,q⟩
 | false=>exact q
section
variable {P:Program} {w:World} {K:aP} {mg:Str→Option Value} {base:Heap} {C C2 C3:Addr}
def CH (K:aP) (C:Addr):Sp:=fun vs H Q _=>∃z,vs=[.int z]∧(Sm 1000 z)∧Q (.int (Lw.D.ofInt .near z:Nat)) H
theorem CJ:aD ["z"] ["z"] (ay (top 90)):=bz
theorem k4 (ak:Ev K mg C C2 C3):cw P w K mg base "whole_bits" ["z"] 5 (CH K C):=by
 have T:=ak.T;refine bc (ak.df 58) CJ tW (tX fun f bw A outer s H Q E hr z h=>?_);obtain⟨hp,q⟩:=h;refine⟨_,aj (aq (pf (gf ak) hr (aa (aG T.DOUBLE rfl) (aa (aG T.e7 rfl) (aa (pf (rT ak) hr (aa (pv 0) (ae))) (ae)))))),cP rfl rfl ?p1 (fun a1 H1 s1 x1=>gj rfl (x1) ?p2 ⟨s1,?r1⟩)⟩
 case p1=>trivial
 case p2=>exact⟨lZ,l0,by show (0:Int)≤((_:Nat):Int);omega,(hp.mono J9).le (by show (((_:Nat):Int)).natAbs≤_;omega),by show (-8800:Int)≤0;decide,by show (0:Int)≤9000;decide⟩
 case r1=>exact bD q (a7 _ (BF.E8 _ _ _))
def Eh (K:aP) (C:Addr):Sp:=fun vs H Q _=>∃b x,vs=[.bl b,.int x]∧(∃X:Nat,x=X∧BF.Out Lw.D X)∧Q (.int (BF.K1 b x.toNat:Nat)) H
theorem Ei:aD ["asked","x"] ["asked","x"] (ay (top 96)):=bz
theorem qt (ak:Ev K mg C C2 C3):cw P w K mg base "turned_if" ["asked","x"] 5 (Eh K C):=by
 have T:=ak.T;refine bc (ak.df 64) Ei lp (lr fun f bw A outer s H Q E hr b x h=>?_);obtain⟨⟨X,rfl,o⟩,q⟩:=h;refine⟨_,aj (aq (pf (tD ak) hr (aa (aG T.DOUBLE rfl) (aa (pv 1) (aa (iz AD (pf (dW ak) hr (aa (aG T.DOUBLE rfl) (aa (pv 1) (ae)))) (pv 0)) (ae)))))),bx rfl rfl rfl ?p1 rfl (bG rfl rfl (eZ rfl ?p2 ⟨aI.refl _,?r1⟩))⟩
 case p1=>exact lZ
 case p2=>exact jn o
 case r1=>exact bD q (by rw[aN];exact(BF.TN o b).symm)
def GQ (K:aP) (C:Addr):Sp:=fun vs H Q _=>∃x,vs=[.int x]∧(VB 3 x)∧Q (.bl (BF.km (BF.ta (BF.fm 3) x))) H
theorem wX:aD ["y","u"] ["y"] (ay (top 99)):=bz
theorem Js (ak:Ev K mg C C2 C3):cw P w K mg base "is_whole" ["y"] 5 (GQ K C):=by
 have T:=ak.T;refine bc (ak.df 67) wX tW (tX fun f bw A outer s H Q E hr x h=>?_);obtain⟨hp,q⟩:=h;have hu:=cM hp;refine⟨_,ah (sv 1 wX.nd (pf (bA ak) hr (aa (aG T.DOUBLE rfl) (aa (pv 0) (ae))))) (aj (aq (cY (AR (iz mv (a8 T.ex .power (pv 1)) (al)) (jh (iz bp (aH jE (a8 T.ex .size (pv 1)) (aH dT (al) (iB gn (a8 T.ex .power (pv 1))))) (al))))))),bP rfl rfl ?p1 (fun a1 H1 s1 x1=>⟨.bl (BF.km (BF.ta (BF.fm 3) x)),aW rfl rfl (x1) (ck rfl rfl rfl (aK (fun h1=>?d2) (fun h1=>ax rfl rfl (x1) rfl (aW rfl (x1) rfl (bJ rfl rfl ?c1 (bJ rfl rfl ?c2 (bG rfl rfl ?d1))))))),⟨s1,?r1⟩⟩)⟩
 case p1=>exact hp
 case d2=>exact⟨by unfold BF.km;rw[h1];rfl,rfl⟩
 case c1=>have:=df h1;have:=hu.2.2;exact⟨Kf,Kf,b6 J9 J9⟩
 case c2=>show (0:Int)<1*2^_;rw[dc];exact BF.aX _
 case d1=>exact⟨by unfold BF.km;rw[dc,aV _ |>.mp h1];rfl,rfl⟩
 case r1=>exact q
def LP (K:aP) (C:Addr):Sp:=fun vs H Q _=>∃x,vs=[.int x]∧(VB 3 x)∧Q (.bl (BF.qF (BF.ta (BF.fm 3) x))) H
theorem CK:aD ["y","u"] ["y"] (ay (top 100)):=bz
theorem OC (ak:Ev K mg C C2 C3):cw P w K mg base "is_odd" ["y"] 5 (LP K C):=by
 have T:=ak.T;refine bc (ak.df 68) CK tW (tX fun f bw A outer s H Q E hr x h=>?_);obtain⟨hp,q⟩:=h;have hu:=cM hp;refine⟨_,ah (sv 1 CK.nd (pf (bA ak) hr (aa (aG T.DOUBLE rfl) (aa (pv 0) (ae))))) (ah (aS (b8 eX (a8 T.ex .power (pv 1)) (al)) (aj (aq (jJ))) (aB)) (aj (aq (iz bp (aH jE (a8 T.ex .size (pv 1)) (aH dT (al) (aH dm (al) (a8 T.ex .power (pv 1))))) (aH dT (al) (iB gn (a8 T.ex .power (pv 1)))))))),bP rfl rfl ?p1 (fun a1 H1 s1 x1=>aW rfl rfl (x1) (ck rfl rfl rfl (aK (fun h1=>⟨s1,?r1⟩) (fun h1=>ax rfl rfl (x1) rfl (br rfl (x1) rfl rfl (bJ rfl rfl ?c1 (bJ rfl rfl ?c2 (ax rfl rfl (x1) rfl (bJ rfl rfl ?c3 (bG rfl rfl ⟨s1,?r2⟩))))))))))⟩
 case p1=>exact hp
 case r1=>exact wD q (by unfold BF.qF;rw[ao (dt h1)])
 case c1=>have:=df h1;have:=hu.2.2;exact⟨Kf,Kf,b6 J9 J9⟩
 case c2=>show (0:Int)<1*2^_;rw[dc];exact BF.aX _
 case c3=>have:=df h1;have:=hu.2.2;exact⟨Kf,Kf,b6 J9 J9⟩
 case r2=>exact wD q (by unfold BF.qF;rw[ag (df h1),dc,dc])
def qw (K:aP) (C:Addr):Sp:=fun vs H Q _=>∃x y,vs=[.int x,.int y]∧(VB 3 x∧VB 3 y)∧Q (.int (if x%BF.aU (BF.fm 3)=BF.hJ then BF.hJ else if decide (x%BF.aU (BF.fm 3)<BF.hJ)=decide (BF.aU (BF.fm 3)≤y) then BF.bE (BF.fm 3) else 0)) H
theorem kz:aD ["x","y","size"] ["x","y"] (ay (top 98)):=bz
theorem qV (ak:Ev K mg C C2 C3):cw P w K mg base "raised_to_infinity" ["x","y"] 3 (qw K C):=by
 have T:=ak.T;refine bc (ak.df 66) kz lp (lr fun f bw A outer s H Q E hr x y h=>?_);obtain⟨hp,q⟩:=h;refine⟨_,ah (sv 2 kz.nd (pf (fc ak) hr (aa (aG T.DOUBLE rfl) (aa (pv 0) (ae))))) (ah (aS (b8 bp (pv 2) (aG T.hJ rfl)) (aj (aq (aG T.hJ rfl))) (aB)) (aj (aq (cY (b9 (b8 Gy (iz jv (pv 2) (aG T.hJ rfl)) (pf (dW ak) hr (aa (aG T.DOUBLE rfl) (aa (pv 1) (ae))))) (pf (cF ak) hr (aa (aG T.DOUBLE rfl) (ae))) (al)))))),bP rfl rfl ?p1 (aE rfl rfl rfl rfl (aK (fun h1=>⟨aI.refl _,?r1⟩) (fun h1=>⟨.int (if decide (x%BF.aU (BF.fm 3)<BF.hJ)=decide (BF.aU (BF.fm 3)≤y) then BF.bE (BF.fm 3) else 0),aE rfl rfl rfl rfl (bG rfl ?p2 (ck rfl rfl rfl (aK (fun h2=>eG rfl ?p3 ?d1) (fun h2=>?d2)))),⟨aI.refl _,?r2⟩⟩)))⟩
 case p1=>exact⟨lZ,hp.1.2.1⟩
 case p2=>exact lZ
 case p3=>exact lZ
 case r1=>exact bD q (by rw[ao (show x%BF.aU (BF.fm 3)=BF.hJ from dt h1)];rfl)
 case d1=>exact⟨by rw[ao (show decide (x%BF.aU (BF.fm 3)<BF.hJ)=decide (BF.aU (BF.fm 3)≤y) from dE.mp h2)],rfl⟩
 case d2=>exact⟨by rw[ag (show ¬decide (x%BF.aU (BF.fm 3)<BF.hJ)=decide (BF.aU (BF.fm 3)≤y) from fun z=>h2 (dE.mpr z))],rfl⟩
 case r2=>exact bD q (by rw[ag (show ¬x%BF.aU (BF.fm 3)=BF.hJ from df h1)])
def Ri (K:aP) (C:Addr):Sp:=fun vs H Q _=>∃x,vs=[.int x]∧(VB 3 x)∧Q (.int (BF.ij x.toNat:Nat)) H
theorem CL:aD ["x","least","greatest"] ["x"] (ay (top 92)):=bz
theorem Ul (ak:Ev K mg C C2 C3):cw P w K mg base "held" ["x"] 6 (Ri K C):=by
 have T:=ak.T;refine bc (ak.df 60) CL tW (tX fun f bw A outer s H Q E hr x h=>?_);obtain⟨hp,q⟩:=h;obtain⟨X,rfl⟩:=aA hp.2.1;refine⟨_,ah (sv 1 CL.nd (pf (k4 ak) hr (aa (aG T.zH rfl) (ae)))) (ah (sv 2 CL.nd (pf (k4 ak) hr (aa (aG T.va rfl) (ae)))) (ah (aS (b8 jv (pf (iO ak) hr (aa (aG T.DOUBLE rfl) (aa (pv 0) (ae)))) (pf (iO ak) hr (aa (aG T.DOUBLE rfl) (aa (pv 1) (ae))))) (aj (aq (pv 1))) (aB)) (aj (aq (cY (b9 (b8 eX (pf (iO ak) hr (aa (aG T.DOUBLE rfl) (aa (pv 0) (ae)))) (pf (iO ak) hr (aa (aG T.DOUBLE rfl) (aa (pv 2) (ae))))) (pv 2) (pv 0))))))),eG rfl ?p1 (eG rfl ?p2 (aE rfl rfl ?p3 rfl (bG rfl ?p4 (ck rfl rfl rfl (aK (fun h1=>bg rfl ⟨aI.refl _,?r1⟩) (fun h1=>⟨.int (if BF.place (BF.fm 3) BF.GB<BF.place (BF.fm 3) X then (BF.GB:Int) else X),aE rfl rfl ?p5 rfl (bG rfl ?p6 (ck rfl rfl rfl (aK (fun h2=>bg rfl ?d1) (fun h2=>bg rfl ?d2)))),⟨aI.refl _,?r2⟩⟩))))))⟩
 case p1=>exact b6 J9 J9
 case p2=>exact b6 J9 J9
 case p3=>exact hp
 case p4=>exact jn g8
 case p5=>exact hp
 case p6=>exact jn g8
 case r1 =>
  have e:=dt h1;rw[←BF.Ga] at e;exact bD q (by unfold BF.ij;rw[aN,ao (show BF.place Lw.D X<BF.place Lw.D BF.LB from e),BF.Ga])
 case d1=>exact⟨by have e:=dt h2;rw[←BF.Gb] at e;rw[ao e,BF.Gb],rfl⟩
 case d2=>exact⟨by have e:=df h2;rw[←BF.Gb] at e;rw[ag e],rfl⟩
 case r2 =>
  refine bD q ?_;unfold BF.ij;have e:=df h1;rw[←BF.Ga] at e;rw[aN,ag (show ¬BF.place Lw.D X<BF.place Lw.D BF.LB from e)];show (if BF.place Lw.D BF.GB<BF.place Lw.D X then (BF.GB:Int) else X)=_;split<;>rfl
def ua (K:aP) (C:Addr):Sp:=fun vs H Q _=>∃a u n,vs=[.ref a,.int n]∧(eP C H a u)∧(Wd (-1074) 2047 53 u∧Sm 3000 n)∧∀a H',aI H H'→eP C H' a (BF.beyond u n)→Q (.ref a) H'
theorem lL:aD ["u","n","left"] ["u","n"] (ay (top 95)):=bz
theorem vg (ak:Ev K mg C C2 C3):cw P w K mg base "beyond_quarters" ["u","n"] 5 (ua K C):=by
 have T:=ak.T;refine cQ (ak.df 63) lL lW (lX fun f bw A outer s H Q E hr a u n h=>?_);obtain⟨o1,⟨hu,hn⟩,q⟩:=h;refine⟨_,ah (sv 2 lL.nd (pf (wQ ak) hr (aa (pv 0) (aa (pf (mR ak) hr (aa (pf (rT ak) hr (aa (iB gn (pv 1)) (ae))) (aa (iB gn (al)) (ae)))) (aa (aG T.e7 rfl) (ae)))))) (aj (aq (b9 (aQ (pf (fO ak) hr (aa (pv 2) (ae)))) (pf (gM ak) hr (aa (a8 T.ex .neg (pv 0)) (aa (al) (aa (al) (ae))))) (pv 2)))),aW rfl rfl rfl (eG rfl ?p1 (fun a1 H1 s1 x1=>bg rfl (jr rfl (x1) ?p2 (fun a2 H2 s2 x2=>jY rfl (((o1).same s1).same s2) ⟨(x2),?p3,fun a3 H3 s3 x3=>eJ rfl rfl (x3) ?p4 (bg rfl (aK (fun h1=>aW rfl rfl ((((o1).same s1).same s2).same s3) (eZ rfl ?p5 (fun a4 H4 s4 x4=>q _ _ ((((s1).trans s2).trans s3).trans s4) (gg (x4) ?r1)))) (fun h1=>bg rfl (q _ _ (((s1).trans s2).trans s3) (gg (x3) ?r2)))))⟩))))⟩
 all_goals try trivial
 case p3=>exact⟨hu.eb J9 J9 J9,⟨by show (0:Int)≤((_:Nat):Int);omega,(hn.mono J9).le (by show (((_:Nat):Int)).natAbs≤_;omega),by show (-20000:Int)≤0+-2;decide,by show (0+-2:Int)≤20000;decide⟩,l0⟩
 case r1=>unfold BF.beyond;rw[ao (show BF.bC (BF.cG .near u (BF.fX (BF.gI (-n)) (-2)))=true from h1)]
 case r2=>unfold BF.beyond;rw[ag (show ¬BF.bC (BF.cG .near u (BF.fX (BF.gI (-n)) (-2)))=true from h1)];rfl
theorem Um {N g:Nat} (h1:g*g≤N) (h2:N<(g+1)*(g+1)):BF.lE N=g:=by
 obtain⟨r,e,r1,r2⟩:=BF.nS N;have:BF.lE N=r:=e;rw[this];exact BF.BD r1 r2 h1 h2
theorem LQ {N:Nat} {n:Int} (hN:n=N) (h0:0<n):N<(2^((BF.bl n+1)/2).toNat+1)*(2^((BF.bl n+1)/2).toNat+1):=by
 have ⟨a,b⟩:=BF.oW h0;have hb:1≤BF.bl n:=by unfold BF.bl;rw[ag Kf];omega
 rw[BF.cW Kf,hN] at b;have c:=BF.mz.mp b;rw[←hN] at c;have d:N<2^(BF.bl n).toNat:=by have:=BF.bO (BF.bl n).toNat;omega
 have e:2^(BF.bl n).toNat≤2^((BF.bl n+1)/2).toNat*2^((BF.bl n+1)/2).toNat:=by
  rw[←eC];exact fb J9 Kf
 have f:2^((BF.bl n+1)/2).toNat*2^((BF.bl n+1)/2).toNat≤(2^((BF.bl n+1)/2).toNat+1)*(2^((BF.bl n+1)/2).toNat+1):=DF Kf Kf;omega
def CM (K:aP) (C:Addr):Sp:=fun vs H Q _=>∃n,vs=[.int n]∧(0<n∧Sm 8000 n)∧Q (.int (BF.lE n.toNat:Nat)) H
theorem je:aD ["n","guess","better"] ["n"] (ay (top 88)):=bz
theorem Ej (ak:Ev K mg C C2 C3):cw P w K mg base "floor_root" ["n"] 1 (CM K C):=by
 have T:=ak.T;refine bc (ak.df 56) je tW (tX fun f bw A outer s H Q E hr n h=>?_);obtain⟨hp,q⟩:=h;obtain⟨N,hN⟩:=aA (bo hp.1);have b1:=tw hp.2 hp.1;have g0:=LQ hN hp.1;refine⟨_,ah (sv 1 je.nd (aH dT (al) (aH ip (aH bX (Az (pv 0)) (al)) (al)))) (ah (sv 2 je.nd (aH ip (aH bX (pv 1) (aH ip (pv 0) (pv 1))) (al))) (ah (jO PassesOwn.never (cy (b8 jv (pv 2) (pv 1))) (ah (sv 1 je.nd (pv 2)) (aj (sv 2 je.nd (aH ip (aH bX (pv 1) (aH ip (pv 0) (pv 1))) (al)))))) (aj (aq (pv 1))))),br rfl rfl rfl rfl (bJ rfl rfl (u9 J9 J9) (bJ rfl rfl ?c1 (aW rfl rfl rfl (bJ rfl rfl ?c2 (bG rfl rfl (bJ rfl rfl (u9 J9 J9) ?w1))))))⟩
 case c1=>exact⟨Kf,Kf,b6 J9 J9⟩
 case c2=>exact⟨by rw[dc];exact BF.aX _,by have:=Sm.shl (a:=1) (k:=((BF.bl n+1)/2).toNat) (z:=1) (by unfold Sm;decide);exact this.mono Kf⟩
 case w1 =>
  refine gU (fun (g:Nat) σ H'=>σ=[some (.int n),some (.int g),some (.int ((g+N/g)/2:Nat))]∧H'=H∧0<g∧N<(g+1)*(g+1)∧Sm 8500 g) (fun g=>g) (2^((BF.bl n+1)/2).toNat) ?_ ?_
  ·refine⟨?_,rfl,cV _,g0,?_⟩
   ·subst hN;simp only[dc,JW,cJ,BF.bO];rfl
   ·rw[BF.bO];have:=Sm.shl (a:=1) (k:=((BF.bl n+1)/2).toNat) (z:=1) (by unfold Sm;decide);rw[dc] at this;exact this.mono Kf
  ·rintro g σ H' ⟨rfl,rfl,g1,g2,g3⟩;have g4:Sm 8500 (((g+N/g)/2:Nat):Int):=by
    have q1:N/g≤N:=JX N g;have s1:Sm 8500 (N:Int):=by rw[←hN];exact hp.2.mono J9
    unfold Sm at g3 s1 ⊢;rw[JY] at *;generalize 2^8500=B at *;generalize N/g=Z at *;omega
   have hg':0<(g+N/g)/2:=by
    rcases Nat.eq_zero_or_pos ((g+N/g)/2) with z | z
    ·exfalso;have k:=BF.BC (n:=N) g1;rw[z] at k;have k2:N<1:=by simpa using k
     have:=hp.1;omega
    ·exact z
   refine⟨(decide ((((g+N/g)/2:Nat):Int)<(g:Int))),bx rfl rfl rfl rfl rfl ?d1,aK (fun h1=>bg rfl (aW rfl rfl rfl (bJ rfl rfl ?c3 (bG rfl rfl (bJ rfl rfl (u9 J9 J9) ?e1))))) (fun h1=>bg rfl ⟨aI.refl _,?r1⟩)⟩
   case d1=>exact⟨rfl,rfl⟩
   case c3 =>
    exact⟨Int.natCast_pos.mpr hg',g4.mono J9⟩
   case e1 =>
    have lt:=dt h1;refine⟨(g+N/g)/2,⟨?_,rfl,hg',BF.BC g1,g4⟩,j1.mp lt⟩;subst hN;simp only[JW,cJ];rfl
   case r1 =>
    have ge:=df h1;refine bD q ?_;rw[hN,aN,Um (BF.F8 g1 (DI fun z=>ge (j1.mpr z))) g2]
theorem Uo (n:Nat):BF.lE n*BF.lE n≤n:=by
 obtain⟨r,e,h,_⟩:=BF.nS n;unfold BF.lE;rw[e];exact h
theorem Rj (t:Lw.Fmt) (h:BF.Ok t) (m:Lw.Mode) {z:Int} {n:Nat} (e:z=n) (p:Int):BF.Bp t m false z 1 p=(t.put m false ((n:Rat)*Lw.two p):Nat):=by
 subst e;rw[←BF.v7 t h m false Kf J9];unfold BF.bK;have:((1:Int):Rat)=1:=rfl;have e2:((n:Int):Rat)=(n:Rat):=rfl;rw[ag J9,this,e2,show (n:Rat)/1=n by grind]
theorem Up {n:Nat} {N:Int} (h:Sm 300 N) (h0:0≤N) (e:N.toNat=n):Sm 300 (BF.lE n):=by
 have:=Uo n;have h1:BF.lE n≤n:=bZ (Nat.le_mul_self _) this;unfold Sm at *;omega
theorem XB {N:Int} (h:0<N) (e:(BF.lE N.toNat:Int)*(BF.lE N.toNat:Int)=N):BF.lE N.toNat*BF.lE N.toNat=N.toNat:=by omega
theorem XC {N:Int} (h:0<N) (e:BF.lE N.toNat*BF.lE N.toNat=N.toNat):(BF.lE N.toNat:Int)*(BF.lE N.toNat:Int)=N:=by omega
theorem Rk {n m:Nat} (h:Sm 300 (n:Int)) (hm:m≤1):Sm 302 (2*(n:Int)+(m:Int)):=by
 unfold Sm at *;have:(2:Nat)^302=4*2^300:=rfl;omega
def LR (K:aP) (C:Addr):Sp:=fun vs H Q _=>∃a y l,vs=[.ref a,.int y]∧(∀H,j3 K H a (l.map fun (c:Nat)=>V.int c))∧(VB 3 y∧∃init last,l=init++[last]∧∀c∈l,c<2*Lw.D.sign)∧Q (.int (Lw.horner y.toNat l:Nat)) H
def Rl (K:aP) (C:Addr):Sp:=fun vs H Q _=>∃k m x,vs=[.int k,.int m,.int x]∧(VM m∧VB k x)∧Q (.int ((BF.fm k).root (BF.md m) x.toNat:Nat)) H
theorem pD:aD ["kind","mode","a","u","shift","size","whole_root","more"] ["kind","mode","a"] (ay (top 87)):=bz
theorem Uq (ak:Ev K mg C C2 C3):cw P w K mg base "root" ["kind","mode","a"] 5 (Rl K C):=by
 have T:=ak.T;refine bc (ak.df 55) pD lW (lX fun f bw A outer s H Q E hr k m x h=>?_);obtain⟨⟨hm,hx⟩,q⟩:=h;obtain⟨X,rfl⟩:=aA hx.2.1;have hu:=cM hx;have sm:=BF.gL k;have hk:=hx.1;refine⟨_,ah (sv 3 pD.nd (pf (bA ak) hr (aa (pv 0) (aa (pv 2) (ae))))) (ah (aS (aQ (pf (fO ak) hr (aa (pv 3) (ae)))) (aj (aq (pv 2))) (aB)) (ah (aS (cy (PW.pt (dj (aQ (a8 T.ex .nan (pv 3))) (dQ (aQ (a8 T.ex .neg (pv 3))))))) (aj (aq (pf (fu ak) hr (aa (pv 0) (ae))))) (aB)) (ah (aS (aQ (a8 T.ex .inf (pv 3))) (aj (aq (pv 2))) (aB)) (ah (sv 4 pD.nd (aH bX (aH bX (aH cK (al) (ia T.e8 rfl (pv 0))) (al)) (aH jE (a8 T.ex .power (pv 3)) (al)))) (ah (sv 5 pD.nd (aH dT (a8 T.ex .size (pv 3)) (pv 4))) (ah (sv 6 pD.nd (pf (Ej ak) hr (aa (pv 5) (ae)))) (ah (sv 7 pD.nd (cY (b9 (b8 bp (aH cK (pv 6) (pv 6)) (pv 5)) (al) (al)))) (aj (aq (pf (mQ ak) hr (aa (pv 0) (aa (pv 1) (aa (jJ) (aa (aH bX (aH cK (al) (pv 6)) (pv 7)) (aa (al) (aa (aH dm (aH ip (aH dm (a8 T.ex .power (pv 3)) (pv 4)) (al)) (al)) (ae))))))))))))))))),br rfl rfl rfl ?p1 (fun a1 H1 s1 x1=>eJ rfl rfl (x1) ?p2 (bg rfl (aK (fun h1=>bg rfl ⟨s1,?r1⟩) (fun h1=>⟨((BF.ta (BF.fm k) X).nan||(BF.ta (BF.fm k) X).neg),ax rfl rfl (x1) rfl (aK (fun h3=>?d1) (fun h3=>ax rfl rfl (x1) rfl ?d2)),aK (fun h2=>cP rfl rfl ?p3 ⟨s1,?r2⟩) (fun h2=>ax rfl rfl (x1) rfl (aK (fun h4=>bg rfl ⟨s1,?r3⟩) (fun h4=>bP rfl rfl (uw hk) (bJ rfl rfl ?c1 (ck rfl rfl rfl (aR rfl (x1) (bJ rfl rfl (show (0:Int)<2 by decide) (bG rfl rfl (ax rfl rfl (x1) rfl (bJ rfl rfl ?c2 (cP rfl rfl ?p4 ⟨.int (BF.jS (BF.ig (BF.fm k) (BF.ta (BF.fm k) X))),aR rfl rfl (bJ rfl rfl ?c3 (aE rfl rfl rfl rfl (aK (fun h5=>?d3) (fun h5=>?d4)))),aW rfl rfl rfl (bJ rfl rfl ?c4 (aE rfl rfl rfl rfl (aW rfl (x1) rfl (bG rfl rfl (bJ rfl rfl (u9 J9 J9) (bG rfl rfl ⟨_,_,_,_,_,_,rfl,?p5,⟨s1,?r4⟩⟩))))))⟩)))))))))))⟩))))⟩
 all_goals try trivial
 case d1=>exact⟨by rw[h3];rfl,rfl⟩
 case d2=>exact⟨by rw[aV _ |>.mp h3];rfl,rfl⟩
 case r1=>exact bD q (by rw[aN,BF.wc _ (BF.dk k) _ (bY hx),ao h1])
 case r2=>exact bD q (by rw[aN,BF.wc _ (BF.dk k) _ (bY hx),ag h1,ao h2];exact(BF.dM _).symm)
 case r3=>exact bD q (by rw[aN,BF.wc _ (BF.dk k) _ (bY hx),ag h1,ag h2,ao h4])
 case c1=>exact⟨b6 J9 J9,b6 Kf J9⟩
 case c2=>exact⟨Kf,Kf,hu.2.1.mono J9⟩
 all_goals have sp:0<(BF.ta (BF.fm k) X).size:=size_pos hu.1 (by simp_all) (by simp_all) (by simp_all)
 all_goals have Ur:0<(BF.ta (BF.fm k) X).size*2^(2*((BF.fm k).m:Int)+6+(BF.ta (BF.fm k) X).power%2).toNat:=pS sp (BF.aX _)
 all_goals have sN:Sm 300 ((BF.ta (BF.fm k) X).size*2^(2*((BF.fm k).m:Int)+6+(BF.ta (BF.fm k) X).power%2).toNat):=(Sm.shl hu.2.1).mono Kf
 all_goals have eN:((BF.ta (BF.fm k) X).size*2^(2*((BF.fm k).m:Int)+6+(BF.ta (BF.fm k) X).power%2).toNat).toNat=BF.ig (BF.fm k) (BF.ta (BF.fm k) X):=rfl
 case p4=>exact⟨Ur,sN.mono J9⟩
 all_goals have sq:Sm 300 (BF.lE (BF.ig (BF.fm k) (BF.ta (BF.fm k) X))):=Up sN (bo Ur) eN
 case c3=>exact⟨sq.mono J9,sq.mono J9⟩
 case d3=>exact⟨by unfold BF.jS;rw[ao (show BF.lE (BF.ig (BF.fm k) (BF.ta (BF.fm k) X))*BF.lE (BF.ig (BF.fm k) (BF.ta (BF.fm k) X))=BF.ig (BF.fm k) (BF.ta (BF.fm k) X) from XB Ur (dt h5))];rfl,rfl⟩
 case d4=>exact⟨by unfold BF.jS;rw[ag (show ¬BF.lE (BF.ig (BF.fm k) (BF.ta (BF.fm k) X))*BF.lE (BF.ig (BF.fm k) (BF.ta (BF.fm k) X))=BF.ig (BF.fm k) (BF.ta (BF.fm k) X) from fun e=>df h5 (XC Ur e))];rfl,rfl⟩
 case c4=>exact⟨b6 J9 J9,sq.mono J9⟩
 all_goals have mo:BF.jS (BF.ig (BF.fm k) (BF.ta (BF.fm k) X))≤1:=by unfold BF.jS;split<;>omega
 case p5 =>
  have ZV:=hu.2.2;exact⟨hk,hm,⟨by rw[eN];omega,J9⟩,302,64,by rw[eN];exact Rk sq mo,b6 J9 J9,J9,Kf,Kf⟩
 case r4 =>
  refine bD q ?_;rw[aN,BF.wc _ (BF.dk k) _ (bY hx),ag h1,ag h2,ag h4];rw[eN];exact Rj _ (BF.dk k) _ Kf _
end
theorem n9 {J:It} {g:TG} {tb:TS} {D:Ends} {σ:L2.St} {H1:Hp} (n:Nat) (Pv:Nat→L2.St→Hp→Prop) (h0:Pv 0 σ H1)
  (hs:∀i σ H,i<n→Pv i σ H→J.go i H∧∀x H',J.Ki i H x H'→g x σ H' fun σ2 H2=>tb { D with nx:=Pv (i+1),ct:=Pv (i+1),bk:=D.nx } σ2 H2)
  (he:∀σ H,Pv n σ H→J.stop n H∧D.nx σ H) :
  ∃W:Nat→Nat→L2.St→Hp→Prop,(∃m,W 0 m σ H1)∧∀i m σ H,W i m σ H →
   (J.stop i H∧D.nx σ H)∨(J.go i H∧∃N:L2.St→Hp→Prop,(∀σ' H',N σ' H'→∃m',m'<m∧W (i+1) m' σ' H')∧∀x H',J.Ki i H x H'→g x σ H' fun σ2 H2=>tb { D with nx:=N,ct:=N,bk:=D.nx } σ2 H2):=by
 refine⟨fun i m σ H=>i≤n∧m=n-i∧Pv i σ H,⟨_,iA n,rfl,h0⟩,?_⟩;rintro i m σ H ⟨hi,rfl,p⟩;rcases Nat.lt_or_eq_of_le hi with l | e
 ·have ⟨a,b⟩:=hs i σ H l p;exact .inr ⟨a,_,fun σ' H' q=>⟨n-(i+1),Kf,l,rfl,q⟩,b⟩
 ·subst e;exact .inl (he σ H p)
def lu (y last:Nat) (init:List Nat) (i:Nat):Nat:=(init.reverse.take i).foldl (fun s c=>Lw.D.fma .near s y c) last
theorem Rm {l init:List Nat} {last:Nat} (h:l=init++[last]):lB (l.map fun (c:Nat)=>V.int c) (-1)=some (.int last):=by
 subst h;unfold lB xK;have e:(-1+((init.length:Int)+1)).toNat=init.length:=by omega
 simp;rw[ao Kf,e];simp
theorem OD {l init:List Nat} {last:Nat} (h:l=init++[last]):gb (l.map fun (c:Nat)=>V.int c) none (some (-1))=init.map fun (c:Nat)=>V.int c:=by
 subst h;unfold gb HT.fH;have e:(-1+((init.length:Int)+1)).toNat=init.length:=by omega
 simp;rw[e,List.take_left' (by simp)]
theorem Jt {y last:Nat} {init:List Nat} {i c:Nat} (h:init[init.length-1-i]?=some c) (hi:i<init.length):lu y last init (i+1)=Lw.D.fma .near (lu y last init i) y c:=by
 unfold lu;have e:init.reverse[i]?=some c:=by rw[List.getElem?_reverse hi];exact h
 rw[sQ,e];simp
theorem LS (y last:Nat) (init:List Nat):lu y last init init.length=Lw.horner y (init++[last]):=by
 rw[BF.wd];unfold lu;rw[m7 (by simp)]
theorem OE (y last:Nat) (init:List Nat) (h:last<2*Lw.D.sign) (i:Nat):lu y last init i<2*Lw.D.sign:=by
 unfold lu;generalize init.reverse.take i=l
 induction l generalizing last with
 | nil=>exact h
 | cons c r ih=>exact ih _ (BF.ez BF.cH CF)
section
variable {P:Program} {w:World} {K:aP} {mg:Str→Option Value} {base:Heap} {C C2 C3:Addr}
theorem qz:aD ["row","y","so_far","before"] ["row","y"] (ay (top 89)):=bz
theorem tF (ak:Ev K mg C C2 C3):cw P w K mg base "horner" ["row","y"] 6 (LR K C):=by
 have T:=ak.T;refine bc (ak.df 57) qz lW (lX fun f bw A outer s H Q E hr a y l h=>?_);obtain⟨o1,⟨hy,init,last,hl,hc⟩,q⟩:=h;refine⟨_,ah (sv 2 qz.nd (ek vQ (pv 0) (iB gn (al)))) (ah (nJ PassesOwn.never rfl (QU rfl T.Je (aa (eV SW (pv 0) (i8) (dS (iB gn (al)))) (ae))) (eK (i:=3) qz.nd rfl (Or.inl rfl)) (aj (sv 2 qz.nd (pf (rW ak) hr (aa (aG T.DOUBLE rfl) (aa (aG T.e7 rfl) (aa (pv 2) (aa (pv 1) (aa (pv 3) (ae)))))))))) (aj (aq (pv 2)))),aR rfl rfl (il rfl rfl (o1 _) (Rm hl) (aW rfl rfl rfl (bJ rfl (o1 _) ?c1 (fun t1 ht1=>bG rfl (j3.of aL) ?f1))))⟩
 case c1 =>
  unfold HT.fH;simp only[aF,hl,cT,cN,List.length_nil];rintro⟨_,z⟩;rw[ao J9] at z;omega
 case f1 =>
  obtain⟨Y,rfl⟩:=aA hy.2.1;rw[OD hl,aF];have sq:j3 K (upd H t1 (.tup (init.map fun (c:Nat)=>V.int c))) t1 (init.map fun (c:Nat)=>V.int c):=j3.of aL;refine n9 init.length (fun i σ H'=>(∃b,σ=[some (.ref a),some (.int Y),some (.int (lu Y last init i:Nat)),b])∧H'=upd H t1 (.tup (init.map fun (c:Nat)=>V.int c))) ⟨⟨_,rfl⟩,rfl⟩ ?_ ?_
  ·rintro i σ H' hi ⟨⟨b,rfl⟩,rfl⟩;have hx:init[init.length-1-i]?=some (init[init.length-1-i]'Kf):=bI Kf;refine⟨⟨hi,_,_,sq,by rw[aT,hx];rfl⟩,?_⟩;rintro x H' ⟨rfl,hy'⟩;have ex:=hy' _ sq;rw[aT,hx] at ex;generalize FL:init[init.length-1-i]'Kf=c at *;obtain rfl:V.int (c:Int)=x:=bM ex;refine aW rfl rfl rfl (jY rfl ?p1 ?e1)
   case p1=>exact⟨l0,ir (k:=3) lZ (OE _ _ _ (hc _ (by rw[hl];simp)) _),hy,ir (k:=3) lZ (hc _ (by rw[hl];exact yN _ (FL ▸ fS _)))⟩
   case e1=>exact⟨⟨_,by rw[Jt hx hi];rfl⟩,rfl⟩
  ·rintro σ H' ⟨⟨b,rfl⟩,rfl⟩;refine⟨bB _,?_⟩;refine bg rfl ⟨(ai ht1),?r1⟩
   case r1=>exact bD q (by rw[LS,hl];rfl)
end
theorem MN {X:Nat} (hx:VB 3 (X:Int)) (h1:¬BF.cp (BF.fm 3) X=true) (h2:¬BF.hG (BF.fm 3) X=true):∃s q,BF.Num Lw.D X s q:=by
 have Ju:=bY hx;rcases BF.way Lw.D BF.cH Ju with ⟨a,b⟩ | ⟨s,a,b⟩ | ⟨s,X',S,p,a,b,c,d⟩
 ·exact absurd a h1
 ·exact absurd b h2
 ·exact⟨_,_,Ju,d⟩
theorem LU {X:Nat} {s:Bool} {q:Rat} (n:BF.Num Lw.D X s q):-1200≤BF.mI (BF.ij X)∧BF.mI (BF.ij X)≤1100:=by
 obtain⟨s',n'⟩:=BF.xU n;rw[BF.E9 n'];have b1:((-1200:Int):Rat)≤(if q < -1200 then (-1200:Rat) else if 1100<q then 1100 else q):=by show (-1200:Rat)≤_;split<;>(try split)<;>grind
 have b2:(if q < -1200 then (-1200:Rat) else if 1100<q then 1100 else q)≤((1100:Int):Rat):=by show _≤(1100:Rat);split<;>(try split)<;>grind
 have:=BF.lF b1 b2;exact⟨this.1,this.2.1⟩
theorem OF {X:Nat} (hx:VB 3 (X:Int)) (h1:BF.cp (BF.fm 3) X=true) (m:Lw.Mode):(Lw.exp2 m X:Int)=BF.nR (BF.fm 3):=by
 unfold Lw.exp2;rcases BF.way Lw.D BF.cH (bY hx) with ⟨a,b⟩ | ⟨s,a,b⟩ | ⟨s,X',S,p,a,b,c,d⟩
 ·rw[b];exact(BF.dM _)
 ·exact absurd h1 (by rw[show BF.cp (BF.fm 3) X=false from a];decide)
 ·exact absurd h1 (by rw[show BF.cp (BF.fm 3) X=false from a];decide)
theorem OG {X:Nat} (hx:VB 3 (X:Int)) (h1:BF.hG (BF.fm 3) X=true) (m:Lw.Mode):(Lw.exp2 m X:Int)=if BF.aU (BF.fm 3)≤(X:Int) then 0 else (X:Int):=by
 unfold Lw.exp2;rcases BF.way Lw.D BF.cH (bY hx) with ⟨a,b⟩ | ⟨s,a,b,c,d,e,f,g,i⟩ | ⟨s,X',S,p,a,b,c,d⟩
 ·exfalso;have:BF.hG Lw.D X=false:=by
   unfold BF.cp at a;unfold BF.hG;have:=eU a;exact bS Kf
  rw[show BF.hG Lw.D X=true from h1] at this;cases this
 ·rw[d];cases s
  ·rw[ag (show ¬BF.aU (BF.fm 3)≤(X:Int) from lM e),i];rfl
  ·rw[ao (show BF.aU (BF.fm 3)≤(X:Int) from eU e)];rfl
 ·exact absurd h1 (by rw[show BF.hG (BF.fm 3) X=false from b];decide)
theorem Rn {X:Nat} {s:Bool} {q:Rat} (n:BF.Num Lw.D X s q):VB 3 (BF.ij X:Nat):=by
 obtain⟨s',n'⟩:=BF.xU n;exact ir (k:=3) lZ n'.lt
theorem CN {X:Nat}:BF.xT X=if BF.eA Lw.D (Lw.D.sub .near (BF.ij X) (Lw.D.ofInt .near (BF.mI (BF.ij X))):Nat)=true then 0 else Lw.D.sub .near (BF.ij X) (Lw.D.ofInt .near (BF.mI (BF.ij X))):=rfl
theorem OH (X:Nat):BF.Out Lw.D (BF.xT X):=by
 rw[CN];split
 ·exact BF.o4 Lw.D BF.cH false
 ·exact Jr
theorem Ro:∃init last,Lw.EXP2=init++[last]∧∀c∈Lw.EXP2,c<2*Lw.D.sign:=⟨Lw.EXP2.dropLast,Lw.EXP2.getLast!,J9,J9⟩
theorem Rp:∃init last,Lw.LOG2=init++[last]∧∀c∈Lw.LOG2,c<2*Lw.D.sign:=⟨Lw.LOG2.dropLast,Lw.LOG2.getLast!,J9,J9⟩
theorem Jv:∃init last,Lw.SINE=init++[last]∧∀c∈Lw.SINE,c<2*Lw.D.sign:=⟨Lw.SINE.dropLast,Lw.SINE.getLast!,J9,J9⟩
theorem Jw:∃init last,BF.yS=init++[last]∧∀c∈BF.yS,c<2*Lw.D.sign:=⟨BF.yS.dropLast,BF.yS.getLast!,J9,J9⟩
theorem Rq (y:Nat):BF.Out Lw.D (Lw.horner y Lw.EXP2):=BF.nT y _ _ _
theorem Rr (y:Nat):BF.Out Lw.D (Lw.horner y Lw.LOG2):=BF.nT y _ _ _
theorem Jx (y:Nat):BF.Out Lw.D (Lw.horner y Lw.SINE):=BF.nT y _ _ _
theorem wY (y:Nat):BF.Out Lw.D (Lw.horner y BF.yS):=BF.nT y _ _ _
theorem Rt {X:Nat} (hx:VB 3 (X:Int)) (h1:BF.cp (BF.fm 3) X=true) (m:Lw.Mode):(Lw.logb m X:Int)=BF.nR (BF.fm 3):=by
 unfold Lw.logb;rcases BF.way Lw.D BF.cH (bY hx) with ⟨a,b⟩ | ⟨s,a,b⟩ | ⟨s,X',S,p,a,b,c,d⟩
 ·rw[b];exact(BF.dM _)
 ·exact absurd h1 (by rw[show BF.cp (BF.fm 3) X=false from a];decide)
 ·exact absurd h1 (by rw[show BF.cp (BF.fm 3) X=false from a];decide)
theorem OI {X:Nat} (hx:VB 3 (X:Int)) (h1:BF.eA (BF.fm 3) X=true) (m:Lw.Mode):(Lw.logb m X:Int)=BF.ws (BF.fm 3) true (BF.bE (BF.fm 3)):=by
 unfold Lw.logb;rcases BF.way Lw.D BF.cH (bY hx) with ⟨a,b⟩ | ⟨s,a,b,c⟩ | ⟨s,X',S,p,a,b,c,d⟩
 ·exfalso;have uN:BF.eA Lw.D X=true:=h1;unfold BF.cp at a;unfold BF.eA at uN;have:=eU a;have:=eU uN;have:=BF.gh Lw.D BF.cH;omega
 ·exact absurd h1 (by rw[show BF.eA (BF.fm 3) X=false from c];decide)
 ·have z:S=0:=of_decide_eq_true (c.symm.trans h1);rw[d,z];dsimp only;have:BF.bK s (((0:Int):Rat)*Lw.two p)=0:=by rw[show ((0:Int):Rat)=0 from rfl,Rat.zero_mul];cases s<;>rfl
  rw[ao this];exact BF.lS Lw.D true
theorem dF {s:Bool} {S p:Int} (h:S≠0):BF.bK s ((S:Rat)*Lw.two p)≠0:=by
 have t:=BF.two_pos p;have:(S:Rat)≠0:=fun e=>h (BF.rz.mp (show (S:Rat)=((0:Int):Rat) from e));have k:(S:Rat)*Lw.two p≠0:=fun e=>by
  rcases jg.mp e with z | z
  ·exact this z
  ·grind
 unfold BF.bK;split
 ·exact fun e=>k (by grind)
 ·exact k
theorem Ru {X:Nat} (hx:VB 3 (X:Int)) (h1:¬BF.eA (BF.fm 3) X=true) (h2:decide (BF.aU (BF.fm 3)≤(X:Int))=true) (m:Lw.Mode):(Lw.logb m X:Int)=BF.nR (BF.fm 3):=by
 unfold Lw.logb;rcases BF.way Lw.D BF.cH (bY hx) with ⟨a,b⟩ | ⟨s,a,b,c,d,e⟩ | ⟨s,X',S,p,a,b,c,d,e⟩
 ·rw[b];exact(BF.dM _)
 ·have:s=true:=e.symm.trans h2;rw[d,this];exact(BF.dM _)
 ·have:s=true:=e.symm.trans h2;have z:S≠0:=fun z=>h1 (c.trans (decide_eq_true z));rw[d];dsimp only;rw[if_neg (dF z),if_pos this];exact(BF.dM _)
theorem Rv {X:Nat} (hx:VB 3 (X:Int)) (h2:¬decide (BF.aU (BF.fm 3)≤(X:Int))=true) (h3:BF.hG (BF.fm 3) X=true) (m:Lw.Mode):(Lw.logb m X:Int)=X:=by
 unfold Lw.logb;rcases BF.way Lw.D BF.cH (bY hx) with ⟨a,b⟩ | ⟨s,a,b,c,d,e,f,g,i⟩ | ⟨s,X',S,p,a,b,c,d,e⟩
 ·exfalso;have uN:BF.hG Lw.D X=true:=h3;unfold BF.cp at a;unfold BF.hG at uN;have:=eU a;have:=eU uN;omega
 ·have:s=false:=e.symm.trans (aV _ |>.mp h2);rw[d];rw[this] at i ⊢;rw[i];rfl
 ·exact absurd h3 (by rw[show BF.hG (BF.fm 3) X=false from b];decide)
theorem Rw {X:Nat} (hx:VB 3 (X:Int)) (h1:¬BF.cp (BF.fm 3) X=true) (h0:¬BF.eA (BF.fm 3) X=true) (h2:¬decide (BF.aU (BF.fm 3)≤(X:Int))=true) (h3:¬BF.hG (BF.fm 3) X=true) :
  ∃q,BF.Num Lw.D X false q∧0<q∧0<(BF.ta Lw.D X).size:=by
 have Ju:=bY hx;rcases BF.way Lw.D BF.cH Ju with ⟨a,b⟩ | ⟨s,a,b⟩ | ⟨s,X',S,p,a,b,c,d,e,f,g,i⟩
 ·exact absurd a h1
 ·exact absurd b h3
 ·have z:S≠0:=fun z=>h0 (c.trans (du z));have:s=false:=e.symm.trans (aV _ |>.mp h2);subst this;have sp:0<S:=by omega
  refine⟨_,⟨Ju,d⟩,?_,by rw[f];exact sp⟩;have t:=BF.two_pos p;have s2:(0:Rat)<(S:Rat):=BF.mz.mpr sp;exact fC s2 t
section
variable {P:Program} {w:World} {K:aP} {mg:Str→Option Value} {base:Heap} {C C2 C3:Addr}
def yi (K:aP) (C:Addr):Sp:=fun vs H Q _=>∃m x,vs=[.int m,.int x]∧(VM m∧VB 3 x)∧Q (.int (Lw.exp2 (BF.md m) x.toNat:Nat)) H
theorem iu:aD ["mode","x","exponent","k","y"] ["mode","x"] (ay (top 91)):=bz
theorem qJ (ak:Ev K mg C C2 C3):cw P w K mg base "power_of_two" ["mode","x"] 7 (yi K C):=by
 have T:=ak.T;refine bc (ak.df 59) iu lp (lr fun f bw A outer s H Q E hr m x h=>?_);obtain⟨⟨hm,hx⟩,q⟩:=h;obtain⟨X,rfl⟩:=aA hx.2.1;refine⟨_,ah (aS (aQ (pf (fw ak) hr (aa (aG T.DOUBLE rfl) (aa (pv 1) (ae))))) (aj (aq (pf (fu ak) hr (aa (aG T.DOUBLE rfl) (ae))))) (aB)) (ah (aS (aQ (pf (gA ak) hr (aa (aG T.DOUBLE rfl) (aa (pv 1) (ae))))) (aj (aq (cY (b9 (aQ (pf (dW ak) hr (aa (aG T.DOUBLE rfl) (aa (pv 1) (ae))))) (al) (pv 1))))) (aB)) (ah (sv 2 iu.nd (pf (Ul ak) hr (aa (pv 1) (ae)))) (ah (sv 3 iu.nd (pf (pB ak) hr (aa (pf (bA ak) hr (aa (aG T.DOUBLE rfl) (aa (pv 2) (ae)))) (ae)))) (ah (sv 4 iu.nd (pf (ox ak) hr (aa (aG T.DOUBLE rfl) (aa (aG T.e7 rfl) (aa (pv 2) (aa (pf (k4 ak) hr (aa (pv 3) (ae))) (ae))))))) (ah (AA (aS (aQ (pf (jc ak) hr (aa (aG T.DOUBLE rfl) (aa (pv 4) (ae))))) (aj (sv 4 iu.nd (al))) (aB))) (aj (aq (pf (yg ak) hr (aa (aG T.DOUBLE rfl) (aa (pv 0) (aa (pf (tF ak) hr (aa (Gw T.EXP2 rfl) (aa (pv 4) (ae)))) (aa (pv 3) (ae))))))))))))),aE rfl rfl ?p1 rfl (aK (fun h1=>eG rfl ?p2 ⟨aI.refl _,?r1⟩) (fun h1=>aE rfl rfl ?p3 rfl (aK (fun h2=>⟨.int (if BF.aU (BF.fm 3)≤(X:Int) then 0 else (X:Int)),aE rfl rfl ?p4 rfl (aK (fun h3=>?d1) (fun h3=>bg rfl ?d2)),⟨aI.refl _,?r2⟩⟩) (fun h2=>cP rfl rfl ?p5 (bP rfl rfl ?p6 (fun a1 H1 s1 x1=>bJ rfl (x1) ?p7 (aR rfl rfl (eG rfl ?p8 (gJ rfl ?p9 ⟨[some (.int m),some (.int X),some (.int (BF.ij X:Nat)),some (.int (BF.mI (BF.ij X))),some (.int (BF.xT X:Nat))],aE rfl rfl ?Ci rfl (aK (fun h4=>?e1) (fun h4=>?e2)),bg rfl (fun abG Us=>bg rfl ⟨_,_,Lw.EXP2,rfl,Us,?Ec,bg rfl (gJ rfl ?Cy ⟨s1,?r3⟩)⟩)⟩)))))))))⟩
 all_goals try first | exact lZ | exact l0 | exact⟨lZ,Kf⟩
 case r1=>exact bD q (OF hx h1 _).symm
 case d1=>exact⟨by rw[ao (dt h3)],rfl⟩
 case d2=>exact⟨by rw[ag (df h3)],rfl⟩
 case r2=>exact bD q (OG hx h2 _).symm
 all_goals obtain⟨s,qq,nn⟩:=MN hx h1 h2
 all_goals have hb:=LU nn
 all_goals have hl:=Rn nn
 case p5=>exact hx
 case p6=>exact hl
 case p7=>exact(cM hl).pb J9 J9 J9
 case p8=>exact b6 (by show (BF.mI (BF.ij X)).natAbs<_;omega) J9
 case p9=>exact⟨l0,hl,jn g8⟩
 case e1 =>
  have e:BF.xT X=0:=by rw[CN];exact ao h4
  exact⟨by rw[e];rfl,rfl⟩
 case e2 =>
  have e:=(CN (X:=X)).trans (ag h4);exact⟨by rw[e];rfl,rfl⟩
 case Ec=>exact⟨jn (OH X),Ro⟩
 case Cy=>exact⟨hm,jn (Rq _),Kf,Kf⟩
 case r3=>exact bD q (a7 (fun z:Nat=>(z:Int)) (BF.Qt _ nn).symm)
def Ek (K:aP) (C:Addr):Sp:=fun vs H Q _=>∃m x,vs=[.int m,.int x]∧(VM m∧VB 3 x)∧Q (.int (Lw.logb (BF.md m) x.toNat:Nat)) H
theorem fP:aD ["mode","x","u","leading","k","f","t","y"] ["mode","x"] (ay (top 93)):=bz
theorem wZ (ak:Ev K mg C C2 C3):cw P w K mg base "logarithm" ["mode","x"] 7 (Ek K C):=by
 have T:=ak.T;refine bc (ak.df 61) fP lp (lr fun f bw A outer s H Q E hr m x h=>?_);obtain⟨⟨hm,hx⟩,q⟩:=h;obtain⟨X,rfl⟩:=aA hx.2.1;refine⟨_,ah (aS (aQ (pf (fw ak) hr (aa (aG T.DOUBLE rfl) (aa (pv 1) (ae))))) (aj (aq (pf (fu ak) hr (aa (aG T.DOUBLE rfl) (ae))))) (aB)) (ah (aS (aQ (pf (jc ak) hr (aa (aG T.DOUBLE rfl) (aa (pv 1) (ae))))) (aj (aq (pf (fD ak) hr (aa (aG T.DOUBLE rfl) (aa (jJ) (aa (pf (cF ak) hr (aa (aG T.DOUBLE rfl) (ae))) (ae))))))) (aB)) (ah (aS (aQ (pf (dW ak) hr (aa (aG T.DOUBLE rfl) (aa (pv 1) (ae))))) (aj (aq (pf (fu ak) hr (aa (aG T.DOUBLE rfl) (ae))))) (aB)) (ah (aS (aQ (pf (gA ak) hr (aa (aG T.DOUBLE rfl) (aa (pv 1) (ae))))) (aj (aq (pv 1))) (aB)) (ah (sv 2 fP.nd (pf (bA ak) hr (aa (aG T.DOUBLE rfl) (aa (pv 1) (ae))))) (ah (sv 3 fP.nd (aH dm (Az (a8 T.ex .size (pv 2))) (al))) (ah (sv 4 fP.nd (aH bX (a8 T.ex .power (pv 2)) (pv 3))) (ah (sv 5 fP.nd (pf (gf ak) hr (aa (aG T.DOUBLE rfl) (aa (aG T.e7 rfl) (aa (pf (gM ak) hr (aa (jJ) (aa (a8 T.ex .size (pv 2)) (aa (iB gn (pv 3)) (ae))))) (ae)))))) (ah (AA (aS (b8 mv (pv 5) (aG T.Q3 rfl)) (ah (sv 4 fP.nd (aH bX (pv 4) (al))) (aj (sv 5 fP.nd (pf (yg ak) hr (aa (aG T.DOUBLE rfl) (aa (aG T.e7 rfl) (aa (pv 5) (aa (iB gn (al)) (ae))))))))) (aB))) (ah (sv 6 fP.nd (pf (Cw ak) hr (aa (aG T.DOUBLE rfl) (aa (aG T.e7 rfl) (aa (pf (ox ak) hr (aa (aG T.DOUBLE rfl) (aa (aG T.e7 rfl) (aa (pv 5) (aa (aG T.hJ rfl) (ae)))))) (aa (pf (wW ak) hr (aa (aG T.DOUBLE rfl) (aa (aG T.e7 rfl) (aa (pv 5) (aa (aG T.hJ rfl) (ae)))))) (ae))))))) (ah (sv 7 fP.nd (pf (jD ak) hr (aa (aG T.DOUBLE rfl) (aa (aG T.e7 rfl) (aa (pv 6) (aa (pv 6) (ae))))))) (aj (aq (pf (rW ak) hr (aa (aG T.DOUBLE rfl) (aa (pv 0) (aa (pv 6) (aa (pf (tF ak) hr (aa (Gw T.LOG2 rfl) (aa (pv 7) (ae)))) (aa (pf (k4 ak) hr (aa (pv 4) (ae))) (ae))))))))))))))))))),aE rfl rfl ?p1 rfl (aK (fun h1=>eG rfl ?p2 ⟨aI.refl _,?r1⟩) (fun h1=>aE rfl rfl ?p3 rfl (aK (fun h2=>eG rfl ?p4 (eZ rfl ?p5 ⟨aI.refl _,?r2⟩)) (fun h2=>aE rfl rfl ?p6 rfl (aK (fun h3=>eG rfl ?p7 ⟨aI.refl _,?r3⟩) (fun h3=>aE rfl rfl ?p8 rfl (aK (fun h4=>bg rfl ⟨aI.refl _,?r4⟩) (fun h4=>bP rfl rfl ?p9 (fun a1 H1 s1 x1=>ax rfl rfl (x1) rfl (bG rfl rfl (ax rfl rfl (x1) rfl (bG rfl rfl (ax rfl rfl (x1) rfl (bg rfl (eZ rfl ?Ci (fun a2 H2 s2 x2=>gj rfl (x2) ?Ec ⟨[some (.int m),some (.int X),some (.ref a1),some (.int (BF.bl (BF.ta (BF.fm 3) X).size-1)),some (.int (BF.jK X)),some (.int (BF.oq X:Nat)),none,none],aE rfl rfl rfl rfl (aK (fun h5=>bP rfl rfl rfl (aR rfl rfl (gJ rfl ?Cy ?e1))) (fun h5=>?e2)),bg rfl (gJ rfl ?LN (bg rfl (gJ rfl ?Jq (gJ rfl ?Ut (aR rfl rfl (gJ rfl ?Rx (aR rfl rfl (fun abH Uu=>bg rfl ⟨_,_,Lw.LOG2,rfl,Uu,?Uv,cP rfl rfl ?Uw (jY rfl ?Ux ⟨(s1).trans s2,?r5⟩)⟩))))))))⟩))))))))))))))))⟩
 all_goals try first | exact lZ | exact l0 | exact⟨lZ,Kf⟩
 case r1=>exact bD q (Rt hx h1 _).symm
 case r2=>exact bD q (OI hx h2 _).symm
 case r3=>exact bD q (Ru hx h2 h3 _).symm
 case r4=>exact bD q (Rv hx h3 h4 _).symm
 all_goals obtain⟨qq,nn,q0,sp⟩:=Rw hx h1 h2 h3 h4
 all_goals have hu:=cM hx
 all_goals have ff:=BF.Gd nn q0
 all_goals have b1:=tw hu.2.1 sp
 try (case p9=>exact hx)
 case Ci=>trivial
 case Ec=>exact⟨lZ,l0,hu.1,hu.2.1.mono J9,by show -8800≤-(BF.bl (BF.ta (BF.fm 3) X).size-1);omega,by show -(BF.bl (BF.ta (BF.fm 3) X).size-1)≤9000;omega⟩
 case Cy=>exact⟨l0,jn (BF.fq _ BF.cH _ _),J9,J9⟩
 case e1 =>
  have e:=dt h5;have e':BF.AF≤BF.o8 X:=by
   have:((BF.AF:Nat):Int)≤(BF.o8 X:Nat):=e;omega
  have k1:BF.jK X=BF.mJ X+1:=ao e';have k2:BF.oq X=Lw.D.scale .near (BF.o8 X) (-1):=ao e';exact⟨by rw[k1,k2];rfl,rfl⟩
 case e2 =>
  have e:=df h5;have e':¬BF.AF≤BF.o8 X:=fun z=>e (show ((BF.AF:Nat):Int)≤(BF.o8 X:Nat) by omega);have k1:BF.jK X=BF.mJ X:=ag e';have k2:BF.oq X=BF.o8 X:=ag e';exact⟨by rw[k1,k2];rfl,rfl⟩
 all_goals have o2:VB 3 (BF.oq X:Nat):=jn (by rw[ff.1];exact BF.lg _ BF.cH _ _ _)
 all_goals have o1:VB 3 (BF.hJ:Nat):=jn (by rw[BF.nU];exact g8)
 case LN=>exact⟨l0,o2,o1⟩
 case Jq=>exact⟨l0,o2,o1⟩
 case Ut=>exact⟨l0,jn Jr,jn Rh⟩
 case Rx=>exact⟨l0,jn CG,jn CG⟩
 case Uv=>exact⟨jn kv,Rp⟩
 case Uw=>exact b6 Kf J9
 case Ux=>exact⟨hm,jn CG,jn (Rr _),jn g8⟩
 case r5=>exact bD q (a7 (fun z:Nat=>(z:Int)) (BF.Ir _ nn q0).symm)
end
theorem Uy {m:Lw.Mode} {u:BF.Ex} (h:Wd (-2000) 2900 53 u):Sm 2953 (BF.dn m u):=by
 unfold BF.dn;split
 ·exact(Sm.shl h.2.1).mono (by have:=h.2.2;omega)
 ·rcases BF.xR m u.neg u.size (2^(-u.power).toNat) with e | ⟨e,_⟩
  ·rw[e];have a:=mh (2^(-u.power).toNat) h.1;have b:=f7 h.1 (bo (BF.aX (-u.power).toNat));exact(h.2.1.mono J9).le Kf
  ·rw[e];have a:=mh (2^(-u.power).toNat) h.1;have b:=f7 h.1 (bo (BF.aX (-u.power).toNat));have c:Sm 53 (u.size/2^(-u.power).toNat):=h.2.1.le Kf;exact(Sm.add c (show Sm 53 1 by unfold Sm;decide)).mono J9
theorem CO {u:BF.Ex} (h:Wd (-1074) 2047 53 u):Wd (-2000) 2900 53 (BF.fX u 2):=⟨h.1,h.2.1,by have:=h.2.2;show -2000≤u.power+2;omega,by have:=h.2.2;show u.power+2≤2900;omega⟩
theorem AJ {u:BF.Ex} (h:Wd (-1074) 2047 53 u):Sm 3000 (BF.eH (BF.fX u 2).neg (BF.dn .near (BF.fX u 2))):=by
 have a:=(Uy (m:=.near) (CO h)).mono (show 2953≤3000 by decide);unfold BF.eH;split
 ·exact a.neg
 ·exact a
theorem iP (s:Bool):Wd (-1074) 2047 53 (BF.bN s 0 0):=⟨by show (0:Int)≤0;decide,mT,by show (-1074:Int)≤0;decide,by show (0:Int)≤2047;decide⟩
theorem CP {u:BF.Ex} {n:Int} (h:Wd (-1074) 2047 53 u) (hn:Sm 3000 n):PB (BF.beyond u n):=by
 unfold BF.beyond;split
 ·exact(iP _).pb J9 J9 J9
 ·have b:Wd (-1074) 2047 3000 (BF.fX (BF.gI (-n)) (-2)):=⟨by show (0:Int)≤((_:Nat):Int);omega,hn.le (by show (((_:Nat):Int)).natAbs≤_;omega),by show (-1074:Int)≤0+-2;decide,by show (0+-2:Int)≤2047;decide⟩;exact(wV (m:=.near) (h.mono (show 53≤3000 by decide) J9 J9) b J9 J9).pb J9 J9 J9
theorem OJ {X:Nat} (hx:VB 3 (X:Int)) (h:(BF.cp (BF.fm 3) X||BF.hG (BF.fm 3) X)=true) (m:Lw.Mode):Lw.sinTurn m X=Lw.D.nan∧Lw.cosTurn m X=Lw.D.nan:=by
 unfold Lw.sinTurn Lw.cosTurn;rcases BF.way Lw.D BF.cH (bY hx) with ⟨a,b⟩ | ⟨s,a,b,c,d⟩ | ⟨s,X',S,p,a,b,c,d⟩
 ·rw[b];exact⟨rfl,rfl⟩
 ·rw[d];exact⟨rfl,rfl⟩
 ·rw[show BF.cp (BF.fm 3) X=false from a,show BF.hG (BF.fm 3) X=false from b] at h;cases h
theorem pE {x:Nat} (o:BF.Out Lw.D x) (b:Bool):VB 3 (BF.K1 b x:Nat):=by
 cases b
 ·exact jn o
 ·have hx:=BF.ez BF.cH o;refine ir (k:=3) lZ ?_;show Lw.D.negate x<2*Lw.D.sign;unfold Lw.Fmt.negate;split
  ·exact BF.ez BF.cH (BF.gd _ BF.cH)
  ·split
   ·omega
   ·next z =>
    rw[←BF.Ik Lw.D hx] at z;have z':=df z;have:=BF.dX Lw.D;omega
theorem tG {X:Nat} {s:Bool} {qq:Rat} (nn:BF.Num Lw.D X s qq) {m:Lw.Mode} {g:Int} (hg:g=0∨g=1) {u:BF.Ex} (hU:BF.qh X=u) :
  (if g=0 then Lw.sinTurn m X else Lw.cosTurn m X)=BF.o9 m ((BF.eH u.neg (BF.dn .near (BF.fX u 2))+g)%4) (Lw.D.ofKind .near (BF.beyond u (BF.eH u.neg (BF.dn .near (BF.fX u 2)))).kind):=by
 subst hU;have ⟨a,b⟩:=BF.TQ m nn;rcases hg with rfl | rfl
 ·rw[ao rfl,a];rfl
 ·rw[ag J9,b];rfl
theorem MO {X:Nat} (h:(4841369599423283200:Int)≤(X:Int)%BF.aU (BF.fm 3)):BF.Qy≤X%Lw.D.sign:=by
 have e:=BF.dX Lw.D;have e2:BF.aU (BF.fm 3)=((Lw.D.sign:Nat):Int):=by rw[e];rfl
 rw[e2] at h;show 4841369599423283200≤_;omega
theorem MP {X:Nat} (h:BF.Qy≤X%Lw.D.sign):(4841369599423283200:Int)≤(X:Int)%BF.aU (BF.fm 3):=by
 have e:=BF.dX Lw.D;have e2:BF.aU (BF.fm 3)=((Lw.D.sign:Nat):Int):=by rw[e];rfl
 rw[e2];have h':4841369599423283200≤X%Lw.D.sign:=h;omega
section
variable {P:Program} {w:World} {K:aP} {mg:Str→Option Value} {base:Heap} {C C2 C3:Addr}
def Ry (K:aP) (C:Addr):Sp:=fun vs H Q _=>∃m x g,vs=[.int m,.int x,.int g]∧(VM m∧VB 3 x∧(g=0∨g=1))∧Q (.int ((if g=0 then Lw.sinTurn (BF.md m) x.toNat else Lw.cosTurn (BF.md m) x.toNat):Nat)) H
theorem lx:aD ["mode","x","quarters","u","n","f","y","quadrant","so_far"] ["mode","x","quarters"] (ay (top 94)):=bz
theorem MQ (ak:Ev K mg C C2 C3):cw P w K mg base "wave" ["mode","x","quarters"] 7 (Ry K C):=by
 have T:=ak.T;refine bc (ak.df 62) lx lW (lX fun f bw A outer s H Q E hr m x g h=>?_);obtain⟨⟨hm,hx,hg⟩,q⟩:=h;obtain⟨X,rfl⟩:=aA hx.2.1;refine⟨_,ah (aS (cy (PW.pt (dj (aQ (pf (fw ak) hr (aa (aG T.DOUBLE rfl) (aa (pv 1) (ae))))) (dQ (aQ (pf (gA ak) hr (aa (aG T.DOUBLE rfl) (aa (pv 1) (ae))))))))) (aj (aq (pf (fu ak) hr (aa (aG T.DOUBLE rfl) (ae))))) (aB)) (ah (sv 3 lx.nd (pf (bA ak) hr (aa (aG T.DOUBLE rfl) (aa (pv 1) (ae))))) (ah (aS (b8 mv (pf (fc ak) hr (aa (aG T.DOUBLE rfl) (aa (pv 1) (ae)))) (aG T.Cb rfl)) (aj (sv 3 lx.nd (pf (gM ak) hr (aa (a8 T.ex .neg (pv 3)) (aa (al) (aa (al) (ae))))))) (aB)) (ah (sv 4 lx.nd (pf (pB ak) hr (aa (pf (mR ak) hr (aa (pv 3) (aa (al) (ae)))) (ae)))) (ah (sv 5 lx.nd (pf (gf ak) hr (aa (aG T.DOUBLE rfl) (aa (aG T.e7 rfl) (aa (pf (vg ak) hr (aa (pv 3) (aa (pv 4) (ae)))) (ae)))))) (ah (sv 6 lx.nd (pf (jD ak) hr (aa (aG T.DOUBLE rfl) (aa (aG T.e7 rfl) (aa (pv 5) (aa (pv 5) (ae))))))) (ah (sv 7 lx.nd (aH jE (aH bX (pv 4) (pv 2)) (al))) (ah (aS (b8 bp (aH jE (pv 7) (al)) (al)) (aj (aq (pf (jD ak) hr (aa (aG T.DOUBLE rfl) (aa (pv 0) (aa (pf (qt ak) hr (aa (iz bp (pv 7) (al)) (aa (pv 5) (ae)))) (aa (pf (tF ak) hr (aa (Gw T.SINE rfl) (aa (pv 6) (ae)))) (ae)))))))) (aB)) (ah (sv 8 lx.nd (pf (qt ak) hr (aa (iz bp (pv 7) (al)) (aa (pf (tF ak) hr (aa (Gw T.Cc rfl) (aa (pv 6) (ae)))) (ae))))) (aj (aq (pf (rW ak) hr (aa (aG T.DOUBLE rfl) (aa (pv 0) (aa (pv 8) (aa (pv 6) (aa (pf (qt ak) hr (aa (iz bp (pv 7) (al)) (aa (aG T.DZ rfl) (ae)))) (ae))))))))))))))))),⟨(BF.cp (BF.fm 3) X||BF.hG (BF.fm 3) X),aE rfl rfl ?p1 rfl (aK (fun h2=>?d1) (fun h2=>aE rfl rfl ?p2 rfl ?d2)),aK (fun h1=>eG rfl ?p3 ⟨aI.refl _,?r1⟩) (fun h1=>bP rfl rfl ?p4 (fun a1 H1 s1 x1=>bP rfl rfl ?p5 (ck rfl rfl rfl (aK (fun h3=>aW rfl rfl (x1) (eZ rfl ?p6 (fun a2 H2 s2 x2=>bg rfl (jr rfl (x2) ?p7 (fun a3 H3 s3 x3=>bJ rfl (x3) ?p8 (aR rfl rfl (jr rfl ((x2).same s3) ?p9 (fun a4 H4 s4 x4=>gj rfl (x4) ?Ci (aR rfl rfl (gJ rfl ?Ec (br rfl rfl rfl rfl (bJ rfl rfl (show (0:Int)<4 by decide) (eJ rfl rfl rfl (show (0:Int)<2 by decide) (ck rfl rfl rfl (aK (fun h4=>bx rfl rfl rfl rfl rfl (bG rfl ?Cy (fun UA GR=>bg rfl ⟨_,_,Lw.SINE,rfl,GR,?LN,gJ rfl ?Jq ⟨(((s1).trans s2).trans s3).trans s4,?r2⟩⟩))) (fun h4=>bP rfl rfl rfl (fun yj kT=>bg rfl ⟨_,_,BF.yS,rfl,kT,?Ut,bG rfl ?Rx (ax rfl rfl rfl rfl (bG rfl rfl (bG rfl ?Uv (jY rfl ?Uw ⟨(((s1).trans s2).trans s3).trans s4,?r3⟩))))⟩))))))))))))))))) (fun h3=>bg rfl (jr rfl (x1) ?Ux (fun a5 H5 s5 x5=>bJ rfl (x5) ?XD (aR rfl rfl (jr rfl ((x1).same s5) ?XE (fun a6 H6 s6 x6=>gj rfl (x6) ?XF (aR rfl rfl (gJ rfl ?p23 (br rfl rfl rfl rfl (bJ rfl rfl (show (0:Int)<4 by decide) (eJ rfl rfl rfl (show (0:Int)<2 by decide) (ck rfl rfl rfl (aK (fun h5=>bx rfl rfl rfl rfl rfl (bG rfl ?p24 (fun UA GR=>bg rfl ⟨_,_,Lw.SINE,rfl,GR,?p25,gJ rfl ?p26 ⟨((s1).trans s5).trans s6,?r4⟩⟩))) (fun h5=>bP rfl rfl rfl (fun yj kT=>bg rfl ⟨_,_,BF.yS,rfl,kT,?p27,bG rfl ?p28 (ax rfl rfl rfl rfl (bG rfl rfl (bG rfl ?p29 (jY rfl ?p30 ⟨((s1).trans s5).trans s6,?r5⟩))))⟩)))))))))))))))))))⟩⟩
 all_goals try first | exact lZ | exact l0 | exact⟨lZ,Kf⟩
 all_goals try exact True.intro
 case d1=>exact⟨by rw[h2];rfl,rfl⟩
 case d2=>exact⟨by rw[aV _ |>.mp h2];rfl,rfl⟩
 case r1=>exact bD q (by have ⟨a,b⟩:=OJ hx h1 (BF.md m);rw[aN,a,b];split<;>exact(BF.dM _).symm)
 case p4=>exact hx
 all_goals have uN:¬BF.cp (BF.fm 3) X=true∧¬BF.hG (BF.fm 3) X=true:=by simpa using h1
 all_goals obtain⟨s,qq,nn⟩:=MN hx uN.1 uN.2
 case p8 =>
  have hw:Wd (-1074) 2047 53 (BF.bN (BF.ta (BF.fm 3) X).neg 0 0):=iP _;exact(CO hw).pb J9 J9 J9
 case p9 =>
  have hw:Wd (-1074) 2047 53 (BF.bN (BF.ta (BF.fm 3) X).neg 0 0):=iP _;exact⟨hw,AJ hw⟩
 case Ci =>
  have hw:Wd (-1074) 2047 53 (BF.bN (BF.ta (BF.fm 3) X).neg 0 0):=iP _;exact⟨lZ,l0,CP hw (AJ hw)⟩
 case Ec =>
  have hw:Wd (-1074) 2047 53 (BF.bN (BF.ta (BF.fm 3) X).neg 0 0):=iP _;exact⟨l0,jn (BF.fq _ BF.cH _ _),jn (BF.fq _ BF.cH _ _)⟩
 case Cy =>
  have hw:Wd (-1074) 2047 53 (BF.bN (BF.ta (BF.fm 3) X).neg 0 0):=iP _;exact⟨_,rfl,BF.fq _ BF.cH _ _⟩
 case LN =>
  have hw:Wd (-1074) 2047 53 (BF.bN (BF.ta (BF.fm 3) X).neg 0 0):=iP _;exact⟨jn kv,Jv⟩
 case Jq =>
  have hw:Wd (-1074) 2047 53 (BF.bN (BF.ta (BF.fm 3) X).neg 0 0):=iP _;exact⟨hm,pE (BF.fq _ BF.cH _ _) _,jn (Jx _)⟩
 case Ut =>
  have hw:Wd (-1074) 2047 53 (BF.bN (BF.ta (BF.fm 3) X).neg 0 0):=iP _;exact⟨jn kv,Jw⟩
 case Rx =>
  have hw:Wd (-1074) 2047 53 (BF.bN (BF.ta (BF.fm 3) X).neg 0 0):=iP _;exact⟨_,rfl,wY _⟩
 case Uv =>
  have hw:Wd (-1074) 2047 53 (BF.bN (BF.ta (BF.fm 3) X).neg 0 0):=iP _;exact⟨BF.hJ,rfl,by rw[BF.nU];exact g8⟩
 case Uw =>
  have hw:Wd (-1074) 2047 53 (BF.bN (BF.ta (BF.fm 3) X).neg 0 0):=iP _;exact⟨hm,pE (wY _) _,jn kv,pE (x:=BF.hJ) (by rw[BF.nU];exact g8) _⟩
 case r2 =>
  have hU:BF.qh X=BF.bN (BF.ta (BF.fm 3) X).neg 0 0:=ao (MO (dt h3));exact bD q (a7 (fun z:Nat=>(z:Int)) ((tG nn (m:=BF.md m) hg hU).trans (ao (dt h4))).symm)
 case r3 =>
  have hU:BF.qh X=BF.bN (BF.ta (BF.fm 3) X).neg 0 0:=ao (MO (dt h3));exact bD q (a7 (fun z:Nat=>(z:Int)) ((tG nn (m:=BF.md m) hg hU).trans (ag (df h4))).symm)
 case XD =>
  have hw:Wd (-1074) 2047 53 (BF.ta (BF.fm 3) X):=cM hx;exact(CO hw).pb J9 J9 J9
 case XE =>
  have hw:Wd (-1074) 2047 53 (BF.ta (BF.fm 3) X):=cM hx;exact⟨hw,AJ hw⟩
 case XF =>
  have hw:Wd (-1074) 2047 53 (BF.ta (BF.fm 3) X):=cM hx;exact⟨lZ,l0,CP hw (AJ hw)⟩
 case p23 =>
  have hw:Wd (-1074) 2047 53 (BF.ta (BF.fm 3) X):=cM hx;exact⟨l0,jn (BF.fq _ BF.cH _ _),jn (BF.fq _ BF.cH _ _)⟩
 case p24 =>
  have hw:Wd (-1074) 2047 53 (BF.ta (BF.fm 3) X):=cM hx;exact⟨_,rfl,BF.fq _ BF.cH _ _⟩
 case p25 =>
  have hw:Wd (-1074) 2047 53 (BF.ta (BF.fm 3) X):=cM hx;exact⟨jn kv,Jv⟩
 case p26 =>
  have hw:Wd (-1074) 2047 53 (BF.ta (BF.fm 3) X):=cM hx;exact⟨hm,pE (BF.fq _ BF.cH _ _) _,jn (Jx _)⟩
 case p27 =>
  have hw:Wd (-1074) 2047 53 (BF.ta (BF.fm 3) X):=cM hx;exact⟨jn kv,Jw⟩
 case p28 =>
  have hw:Wd (-1074) 2047 53 (BF.ta (BF.fm 3) X):=cM hx;exact⟨_,rfl,wY _⟩
 case p29 =>
  have hw:Wd (-1074) 2047 53 (BF.ta (BF.fm 3) X):=cM hx;exact⟨BF.hJ,rfl,by rw[BF.nU];exact g8⟩
 case p30 =>
  have hw:Wd (-1074) 2047 53 (BF.ta (BF.fm 3) X):=cM hx;exact⟨hm,pE (wY _) _,jn kv,pE (x:=BF.hJ) (by rw[BF.nU];exact g8) _⟩
 case r4 =>
  have hU:BF.qh X=BF.ta (BF.fm 3) X:=ag fun z=>df h3 (MP z);exact bD q (a7 (fun z:Nat=>(z:Int)) ((tG nn (m:=BF.md m) hg hU).trans (ao (dt h5))).symm)
 case r5 =>
  have hU:BF.qh X=BF.ta (BF.fm 3) X:=ag fun z=>df h3 (MP z);exact bD q (a7 (fun z:Nat=>(z:Int)) ((tG nn (m:=BF.md m) hg hU).trans (ag (df h5))).symm)
end
def yk (m:Int):Int:=if m=1 then 2 else if m=2 then 1 else m
theorem tH {m:Int} (h:VM m):VM (yk m)∧BF.md (yk m)=BF.jT (BF.md m):=by
 rcases BF.wu h.1 h.2 with rfl | rfl | rfl | rfl | rfl<;>exact⟨⟨J9,J9⟩,rfl⟩
theorem Rz {m m2:Int} (h:VM m) (h2:VM m2∧BF.md m2=BF.jT (BF.md m)):m2=yk m:=by
 rw[←(tH h).2] at h2;have v:=(tH h).1;generalize yk m=k at *;rcases BF.wu v.1 v.2 with rfl | rfl | rfl | rfl | rfl<;>rcases BF.wu h2.1.1 h2.1.2 with rfl | rfl | rfl | rfl | rfl<;>first | rfl | (exfalso;have:=h2.2;simp[BF.md] at this)
theorem RA (X:Nat):((X:Int)%BF.aU (BF.fm 3))=((X%Lw.D.sign:Nat):Int):=by
 have e:=BF.dX Lw.D;have e2:BF.aU (BF.fm 3)=((Lw.D.sign:Nat):Int):=by rw[e];rfl
 rw[e2];rfl
theorem Fy {m:Lw.Mode} {X:Nat}:BF.Out Lw.D (Lw.logb m X):=by
 unfold Lw.logb;split
 ·exact BF.gd _ BF.cH
 ·split
  ·exact BF.gd _ BF.cH
  ·exact BF.lh _ BF.cH _
 ·split
  ·exact BF.lh _ BF.cH _
  ·split
   ·exact BF.gd _ BF.cH
   ·exact CF
section
variable {P:Program} {w:World} {K:aP} {mg:Str→Option Value} {base:Heap} {C C2 C3:Addr}
def LV (K:aP) (C:Addr):Sp:=fun vs H Q _=>∃m x y,vs=[.int m,.int x,.int y]∧(VM m∧VB 3 x∧VB 3 y)∧Q (.int (Lw.power (BF.md m) x.toNat y.toNat:Nat)) H
theorem mU:aD ["mode","x","y","negative","grows","exponent","size"] ["mode","x","y"] (ay (top 97)):=bz
theorem OK (ak:Ev K mg C C2 C3):cw P w K mg base "raised" ["mode","x","y"] 8 (LV K C):=by
 have T:=ak.T;refine bc (ak.df 65) mU lW (lX fun f bw A outer s H Q E hr m x y h=>?_);obtain⟨⟨hm,hx,hy⟩,q⟩:=h;obtain⟨X,rfl⟩:=aA hx.2.1;obtain⟨Y,rfl⟩:=aA hy.2.1;refine⟨_,ah (aS (cy (PW.pt (dj (aQ (pf (fw ak) hr (aa (aG T.DOUBLE rfl) (aa (pv 1) (ae))))) (dQ (aQ (pf (fw ak) hr (aa (aG T.DOUBLE rfl) (aa (pv 2) (ae))))))))) (aj (aq (pf (fu ak) hr (aa (aG T.DOUBLE rfl) (ae))))) (aB)) (ah (aS (aQ (pf (jc ak) hr (aa (aG T.DOUBLE rfl) (aa (pv 2) (ae))))) (aj (aq (aG T.hJ rfl))) (aB)) (ah (aS (aQ (pf (gA ak) hr (aa (aG T.DOUBLE rfl) (aa (pv 2) (ae))))) (aj (aq (pf (qV ak) hr (aa (pv 1) (aa (pv 2) (ae)))))) (aB)) (ah (sv 3 mU.nd (cY (lN (pf (dW ak) hr (aa (aG T.DOUBLE rfl) (aa (pv 1) (ae)))) (jh (pf (OC ak) hr (aa (pv 2) (ae))))))) (ah (aS (cy (PW.pt (dj (aQ (pf (jc ak) hr (aa (aG T.DOUBLE rfl) (aa (pv 1) (ae))))) (dQ (aQ (pf (gA ak) hr (aa (aG T.DOUBLE rfl) (aa (pv 1) (ae))))))))) (ah (sv 4 mU.nd (iz Gy (pf (jc ak) hr (aa (aG T.DOUBLE rfl) (aa (pv 1) (ae)))) (pf (dW ak) hr (aa (aG T.DOUBLE rfl) (aa (pv 2) (ae)))))) (aj (aq (pf (fD ak) hr (aa (aG T.DOUBLE rfl) (aa (pv 3) (aa (cY (b9 (aQ (pv 4)) (pf (cF ak) hr (aa (aG T.DOUBLE rfl) (ae))) (al))) (ae)))))))) (aB)) (ah (aS (cy (PW.pt (kc (aQ (pf (dW ak) hr (aa (aG T.DOUBLE rfl) (aa (pv 1) (ae))))) (ka (iY (aQ (pf (Js ak) hr (aa (pv 2) (ae))))))))) (aj (aq (pf (fu ak) hr (aa (aG T.DOUBLE rfl) (ae))))) (aB)) (ah (sv 5 mU.nd (pf (jD ak) hr (aa (aG T.DOUBLE rfl) (aa (aG T.e7 rfl) (aa (pv 2) (aa (pf (wZ ak) hr (aa (aG T.e7 rfl) (aa (pf (fc ak) hr (aa (aG T.DOUBLE rfl) (aa (pv 1) (ae)))) (ae)))) (ae))))))) (ah (sv 6 mU.nd (pf (qJ ak) hr (aa (cY (b9 (aQ (pv 3)) (pf (Ot ak) hr (aa (pv 0) (ae))) (pv 0))) (aa (pv 5) (ae))))) (aj (aq (pf (fD ak) hr (aa (aG T.DOUBLE rfl) (aa (pv 3) (aa (pv 6) (ae)))))))))))))),⟨(BF.cp (BF.fm 3) X||BF.cp (BF.fm 3) Y),aE rfl rfl ?p1 rfl (aK (fun h2=>?d1) (fun h2=>aE rfl rfl ?p2 rfl ?d2)),aK (fun h1=>eG rfl ?p3 ⟨aI.refl _,?r1⟩) (fun h1=>aE rfl rfl ?p4 rfl (aK (fun h3=>⟨aI.refl _,?r2⟩) (fun h3=>aE rfl rfl ?p5 rfl (aK (fun h4=>br rfl rfl rfl ?p6 ⟨aI.refl _,?r3⟩) (fun h4=>⟨.bl (decide (BF.aU (BF.fm 3)≤(X:Int))&&BF.qF (BF.ta (BF.fm 3) Y)),aE rfl rfl ?p7 rfl (aK (fun h5=>cP rfl rfl ?p8 ?d3) (fun h5=>?d4)),⟨(BF.eA (BF.fm 3) X||BF.hG (BF.fm 3) X),aE rfl rfl ?p9 rfl (aK (fun h7=>?d5) (fun h7=>aE rfl rfl ?Ci rfl ?d6)),aK (fun h6=>aE rfl rfl ?Ec rfl (bG rfl ?Cy (bG rfl rfl (bg rfl ⟨.int (if (BF.eA (BF.fm 3) X==decide (BF.aU (BF.fm 3)≤(Y:Int)))=true then BF.bE (BF.fm 3) else 0),aR rfl rfl (aK (fun h8=>eG rfl ?LN ?d7) (fun h8=>?d8)),eZ rfl ?Jq ⟨aI.refl _,?r4⟩⟩)))) (fun h6=>⟨(decide (BF.aU (BF.fm 3)≤(X:Int))&&!BF.km (BF.ta (BF.fm 3) Y)),aE rfl rfl ?Ut rfl (aK (fun tT=>cP rfl rfl ?Rx (bg rfl ?d9)) (fun tT=>?IV)),aK (fun h9=>eG rfl ?Uv ⟨aI.refl _,?r5⟩) (fun h9=>br rfl rfl rfl ?Uw (bG rfl ?Ux (gJ rfl ?XD ⟨.int (if (decide (BF.aU (BF.fm 3)≤(X:Int))&&BF.qF (BF.ta (BF.fm 3) Y))=true then yk m else m),aR rfl rfl (aK (fun Gs=>cP rfl rfl ?XE ?RC) (fun Gs=>bg rfl ?XG)),bP rfl rfl ?XF (aR rfl rfl (eZ rfl ?p23 ⟨aI.refl _,?r6⟩))⟩)))⟩)⟩⟩)))))⟩⟩
 all_goals try first | exact lZ | exact l0 | exact⟨lZ,Kf⟩
 all_goals have pw:=BF.NX (BF.md m) (bY hx) (bY hy)
 case d1=>exact⟨by rw[h2];rfl,rfl⟩
 case d2=>exact⟨by rw[aV _ |>.mp h2];rfl,rfl⟩
 all_goals unfold BF.Gg at pw
 all_goals rw[show Lw.D=BF.fm 3 from rfl] at pw
 case r1=>rw[ao h1] at pw;exact bD q pw.symm
 all_goals rw[ag h1] at pw
 case r2=>rw[ao h3] at pw;exact bD q pw.symm
 all_goals rw[ag h3] at pw
 case p6=>exact⟨hx,hy⟩
 case r3=>rw[ao h4] at pw;exact bD q pw.symm
 all_goals rw[ag h4] at pw
 case p8=>exact hy
 case d3=>exact⟨by rw[h5];rfl,rfl⟩
 case d4=>exact⟨by rw[aV _ |>.mp h5];rfl,rfl⟩
 case d5=>exact⟨by rw[h7];rfl,rfl⟩
 case d6=>exact⟨by rw[aV _ |>.mp h7];rfl,rfl⟩
 case d7=>exact⟨by rw[ao h8],rfl⟩
 case d8=>exact⟨by rw[ag h8],rfl⟩
 all_goals dsimp only at pw
 case r4 =>
  rw[ao h6] at pw;refine bD q (Eq.trans ?_ pw.symm);congr 1;by_cases c:BF.eA (BF.fm 3) X=decide (BF.aU (BF.fm 3)≤(Y:Int))
  ·rw[ao (dE.mpr c)];exact(ao c).symm
  ·rw[ag fun z=>c (dE.mp z)];exact(ag c).symm
 all_goals rw[ag h6] at pw
 case Rx=>exact hy
 case d9=>exact⟨by rw[tT];rfl,rfl⟩
 case IV=>exact⟨by rw[aV _ |>.mp tT];rfl,rfl⟩
 case r5=>rw[ao h9] at pw;exact bD q pw.symm
 all_goals rw[ag h9] at pw
 case Ux=>exact⟨l0,by rw[RA];exact ir (k:=3) lZ (b5 (fG _ J9) J9)⟩
 case XD=>exact⟨l0,hy,jn Fy⟩
 case XE=>exact hm
 case RC=>exact fun m2 e=>⟨by rw[ao Gs,Rz hm e],rfl⟩
 case XG=>exact⟨by rw[ag Gs],rfl⟩
 case XF=>exact⟨by split;exact(tH hm).1;exact hm,jn kv⟩
 case r6 =>
  refine bD q (Eq.trans ?_ pw.symm);congr 2;have e:BF.md (if (decide (BF.aU (BF.fm 3)≤(X:Int))&&BF.qF (BF.ta (BF.fm 3) Y))=true then yk m else m)=(if (decide (BF.aU (BF.fm 3)≤(X:Int))&&BF.qF (BF.ta (BF.fm 3) Y))=true then BF.jT (BF.md m) else BF.md m):=by
   split
   ·exact(tH hm).2
   ·rfl
  rw[e,RA];rfl
end
def oy (n:Int) (m:Lw.Mode) (x y:Nat):Nat:=if n=0 then Lw.exp2 m x else if n=1 then Lw.logb m x else if n=2 then Lw.sinTurn m x else if n=3 then Lw.cosTurn m x else Lw.power m x y
theorem UB {x:Nat} (hx:x<2*Lw.D.sign):Lw.D.negate x<2*Lw.D.sign:=by
 unfold Lw.Fmt.negate;split
 ·exact BF.ez BF.cH (BF.gd _ BF.cH)
 ·split
  ·omega
  ·next z =>
   rw[←BF.Ik Lw.D hx] at z;have z':=df z;have:=BF.dX Lw.D;omega
theorem Fz {m:Lw.Mode} {x:Nat}:BF.Out Lw.D (Lw.exp2 m x):=by
 unfold Lw.exp2;split
 ·exact BF.gd _ BF.cH
 ·split
  ·exact BF.o4 _ BF.cH _
  ·exact BF.lh _ BF.cH _
 ·exact LO
theorem Jy (m:Lw.Mode) (n:Int) (z:Bool) (f:Rat):Lw.turnStep m n z f<2*Lw.D.sign:=by
 unfold Lw.turnStep;dsimp only;split
 ·exact BF.ez BF.cH kv
 ·split
  ·exact BF.ez BF.cH CF
  ·exact BF.ez BF.cH (BF.gd _ BF.cH)
theorem UC (m:Lw.Mode) (x y:Nat):Lw.power m x y<2*Lw.D.sign:=by
 unfold Lw.power;have a1:=BF.ez BF.cH (BF.gd Lw.D BF.cH);have a2:=fun b=>BF.ez BF.cH (BF.o4 Lw.D BF.cH b);have a3:=fun b=>BF.ez BF.cH (BF.lh Lw.D BF.cH b);have a4:Lw.D.ofInt .near 1<2*Lw.D.sign:=BF.ez BF.cH g8;have a5:=fun m x=>BF.ez BF.cH (Fz (m:=m) (x:=x));have a6:=fun m x=>UB (a5 m x);dsimp only
 repeat' split
 all_goals first | exact a1 | exact a2 _ | exact a3 _ | exact a4 | exact a5 _ _ | exact a6 _ _
theorem RD (n:Int) (m:Lw.Mode) (x y:Nat):oy n m x y<2*Lw.D.sign:=by
 unfold oy;split
 ·exact BF.ez BF.cH Fz
 split
 ·exact BF.ez BF.cH Fy
 split
 ·unfold Lw.sinTurn;split
  ·exact Jy _ _ _ _
  ·exact BF.ez BF.cH (BF.gd _ BF.cH)
 split
 ·unfold Lw.cosTurn;split
  ·exact Jy _ _ _ _
  ·exact BF.ez BF.cH (BF.gd _ BF.cH)
 ·exact UC _ _ _
theorem UD {n:Int} (h:0≤n) (h2:n≤5) (h4:n≠4) (m:Lw.Mode) (x y:Nat):BF.IH Lw.D m n x y=oy n m x y:=by
 have:n=0∨n=1∨n=2∨n=3∨n=4∨n=5:=by omega
 rcases this with rfl | rfl | rfl | rfl | rfl | rfl<;>first | rfl | exact absurd rfl h4
theorem UE {k n:Int} (hk:VK k) (k3:k≠3) (h:0≤n) (h2:n≤5) (h4:n≠4) (m:Lw.Mode) (x y:Nat):BF.IH (BF.fm k) m n x y=Lw.D.to (BF.fm k) m (oy n .near ((BF.fm k).to Lw.D .near x) ((BF.fm k).to Lw.D .near y)):=by
 have:n=0∨n=1∨n=2∨n=3∨n=4∨n=5:=by omega
 rcases BF.ur hk.1 hk.2 with rfl | rfl | rfl | rfl
 ·rcases this with rfl | rfl | rfl | rfl | rfl | rfl<;>first | rfl | exact absurd rfl h4
 ·rcases this with rfl | rfl | rfl | rfl | rfl | rfl<;>first | rfl | exact absurd rfl h4
 ·rcases this with rfl | rfl | rfl | rfl | rfl | rfl<;>first | rfl | exact absurd rfl h4
 ·exact absurd rfl k3
section
variable {P:Program} {w:World} {K:aP} {mg:Str→Option Value} {base:Heap} {C C2 C3:Addr}
def GS (K:aP) (C:Addr):Sp:=fun vs H Q _=>∃n m x y,vs=[.int n,.int m,.int x,.int y]∧(VM m∧VB 3 x∧VB 3 y)∧Q (.int (oy n (BF.md m) x.toNat y.toNat:Nat)) H
theorem GU:aD ["number","mode","x","y"] ["number","mode","x","y"] (ay (top 86)):=bz
theorem zi (ak:Ev K mg C C2 C3):cw P w K mg base "by_steps" ["number","mode","x","y"] 9 (GS K C):=by
 have T:=ak.T;refine bc (ak.df 54) GU qS (qT fun f bw A outer s H Q E hr n m x y h=>?_);obtain⟨⟨hm,hx,hy⟩,q⟩:=h;obtain⟨X,rfl⟩:=aA hx.2.1;obtain⟨Y,rfl⟩:=aA hy.2.1;refine⟨_,ah (aS (b8 bp (pv 0) (al)) (aj (aq (pf (qJ ak) hr (aa (pv 1) (aa (pv 2) (ae)))))) (aB)) (ah (aS (b8 bp (pv 0) (al)) (aj (aq (pf (wZ ak) hr (aa (pv 1) (aa (pv 2) (ae)))))) (aB)) (ah (aS (b8 bp (pv 0) (al)) (aj (aq (pf (MQ ak) hr (aa (pv 1) (aa (pv 2) (aa (al) (ae))))))) (aB)) (ah (aS (b8 bp (pv 0) (al)) (aj (aq (pf (MQ ak) hr (aa (pv 1) (aa (pv 2) (aa (al) (ae))))))) (aB)) (aj (aq (pf (OK ak) hr (aa (pv 1) (aa (pv 2) (aa (pv 3) (ae)))))))))),aE rfl rfl rfl rfl (aK (fun h1=>br rfl rfl rfl ?p1 ⟨aI.refl _,?r1⟩) (fun h1=>aE rfl rfl rfl rfl (aK (fun h2=>br rfl rfl rfl ?p2 ⟨aI.refl _,?r2⟩) (fun h2=>aE rfl rfl rfl rfl (aK (fun h3=>aR rfl rfl (eZ rfl ?p3 ⟨aI.refl _,?r3⟩)) (fun h3=>aE rfl rfl rfl rfl (aK (fun h4=>aR rfl rfl (eZ rfl ?p4 ⟨aI.refl _,?r4⟩)) (fun h4=>aW rfl rfl rfl (eZ rfl ?p5 ⟨aI.refl _,?r5⟩)))))))))⟩
 case p1=>exact⟨hm,hx⟩
 case r1=>exact bD q (by unfold oy;rw[ao (dt h1)])
 case p2=>exact⟨hm,hx⟩
 case r2=>exact bD q (by unfold oy;rw[ag (df h1),ao (dt h2)])
 case p3=>exact⟨hm,hx,.inl rfl⟩
 case r3=>exact bD q (by unfold oy;rw[ag (df h1),ag (df h2),ao (dt h3),ao rfl])
 case p4=>exact⟨hm,hx,.inr rfl⟩
 case r4=>exact bD q (by unfold oy;rw[ag (df h1),ag (df h2),ag (df h3),ao (dt h4),ag J9])
 case p5=>exact⟨hm,hx,hy⟩
 case r5=>exact bD q (by unfold oy;rw[ag (df h1),ag (df h2),ag (df h3),ag (df h4)])
def GV (K:aP) (C:Addr):Sp:=fun vs H Q _=>∃k n m x y,vs=[.int k,.int n,.int m,.int x,.int y]∧(VM m∧VB k x∧VB k y∧0≤n∧n≤5)∧Q (.int (BF.IH (BF.fm k) (BF.md m) n x.toNat y.toNat:Nat)) H
theorem qA:aD ["kind","number","mode","a","b","x","y"] ["kind","number","mode","a","b"] (ay (top 85)):=bz
theorem Jz (ak:Ev K mg C C2 C3):cw P w K mg base "function" ["kind","number","mode","a","b"] 10 (GV K C):=by
 have T:=ak.T;refine bc (ak.df 53) qA B0 (B3 fun f bw A outer s H Q E hr k n m x y h=>?_);obtain⟨⟨hm,hx,hy,n0,n5⟩,q⟩:=h;obtain⟨X,rfl⟩:=aA hx.2.1;obtain⟨Y,rfl⟩:=aA hy.2.1;refine⟨_,ah (aS (b8 bp (pv 1) (aG T.aax rfl)) (aj (aq (pf (Uq ak) hr (aa (pv 0) (aa (pv 2) (aa (pv 3) (ae))))))) (aB)) (ah (aS (b8 bp (pv 0) (aG T.DOUBLE rfl)) (aj (aq (pf (zi ak) hr (aa (pv 1) (aa (pv 2) (aa (pv 3) (aa (pv 4) (ae)))))))) (aB)) (ah (sv 5 qA.nd (pf (lY ak) hr (aa (pv 0) (aa (aG T.DOUBLE rfl) (aa (aG T.e7 rfl) (aa (pv 3) (ae))))))) (ah (sv 6 qA.nd (pf (lY ak) hr (aa (pv 0) (aa (aG T.DOUBLE rfl) (aa (aG T.e7 rfl) (aa (pv 4) (ae))))))) (aj (aq (pf (lY ak) hr (aa (aG T.DOUBLE rfl) (aa (pv 0) (aa (pv 2) (aa (pf (zi ak) hr (aa (pv 1) (aa (aG T.e7 rfl) (aa (pv 5) (aa (pv 6) (ae)))))) (ae))))))))))),aE rfl rfl rfl rfl (aK (fun h1=>aW rfl rfl rfl (eZ rfl ?p1 ⟨aI.refl _,?r1⟩)) (fun h1=>aE rfl rfl rfl rfl (aK (fun h2=>ax rfl rfl rfl rfl (gJ rfl ?p2 ⟨aI.refl _,?r2⟩)) (fun h2=>aR rfl rfl (gJ rfl ?p3 (aR rfl rfl (gJ rfl ?p4 (ax rfl rfl rfl rfl (bg rfl (gJ rfl ?p5 (gJ rfl ?p6 ⟨aI.refl _,?r3⟩)))))))))))⟩
 case p1=>exact⟨hm,hx⟩
 case r1=>have e:=dt h1;subst e;exact q
 case p2=>have e:=dt h2;subst e;exact⟨hm,hx,hy⟩
 case r2=>have e:=dt h2;subst e;exact bD q (a7 (fun z:Nat=>(z:Int)) (UD n0 n5 (df h1) _ _ _).symm)
 case p3=>exact⟨l0,lZ,hx⟩
 case p4=>exact⟨l0,lZ,hy⟩
 case p5=>exact⟨l0,jn (BF.fq _ BF.cH _ _),jn (BF.fq _ BF.cH _ _)⟩
 case p6=>exact⟨hm,hx.1,ir (k:=3) lZ (RD _ _ _ _)⟩
 case r3=>exact bD q (a7 (fun z:Nat=>(z:Int)) (UE hx.1 (df h2) n0 n5 (df h1) _ _ _).symm)
end
theorem rM:∀(l:List Int) (c:Int),BF.cj (l++[c])=BF.cj l+c*2^(8*l.length)
 | [],c=>by simp[BF.cj]
 | d::r,c=>by
  show d+256*BF.cj (r++[c])=d+256*BF.cj r+c*2^(8*(r.length+1));rw[rM r c,show 8*(r.length+1)=8*r.length+8 by omega,ji,show (2:Int)^8=256 from rfl];generalize (2:Int)^(8*r.length)=p;rw[Int.mul_add,Int.add_assoc,iJ p 256,←DK,←DK,iJ 256 c]
theorem JA {l:List Int} {i:Nat} {c:Int} (h:l[i]?=some c):BF.cj (l.take (i+1))=BF.cj (l.take i)+c*2^(8*i):=by
 have hi:=(g9.mp h).1;rw[sQ,h,xP,rM,fM,mr Kf]
section
variable {P:Program} {w:World} {K:aP} {mg:Str→Option Value} {base:Heap} {C C2 C3:Addr}
def zU (K:aP) (C:Addr):Sp:=fun vs H Q _=>∃a l,vs=[.ref a]∧(bU K H a (l.map V.int))∧(BF.cS l∧l.length≤8)∧Q (.int (BF.cj l)) H
theorem iQ:aD ["row","bits","place","byte"] ["row"] (ay (top 16)):=bz
theorem dq (ak:Ev K mg C C2 C3):cw P w K mg base "bits_of_row" ["row"] 1 (zU K C):=by
 have T:=ak.T;refine bc (ak.df 11) iQ lp (lr fun f bw A outer s H Q E hr a l h=>?_);obtain⟨o1,⟨hb,hl⟩,q⟩:=h;refine⟨_,ah (sv 1 iQ.nd (al)) (ah (nJ PassesOwn.never rfl (Bg rfl T.qr (aa (pv 0) (ae))) (Aj rfl (iR (eK (i:=2) iQ.nd rfl (Or.inl rfl)) (iR (eK (i:=3) iQ.nd rfl (Or.inl rfl)) (rd)))) (aj (sv 1 iQ.nd (aH bX (pv 1) (aH dT (pv 3) (aH cK (al) (pv 2))))))) (aj (aq (pv 1)))),bP rfl rfl (o1) ?f1⟩
 case f1 =>
  refine n9 l.length (fun i σ H'=>(∃p b,σ=[some (.ref a),some (.int (BF.cj (l.take i))),p,b])∧aI H H') ⟨⟨_,_,rfl⟩,aI.refl _⟩ ?_ ?_
  ·rintro i σ H' hi ⟨⟨p,b,rfl⟩,sm⟩;have hx:l[i]?=some (l[i]'hi):=bI hi;refine⟨⟨_,_,sm.seq o1,by rw[aT,hx];rfl⟩,?_⟩;rintro x H2 ⟨T,v,rfl,hT,rfl,hv⟩;have ex:=hv _ (sm.seq o1);rw[aT,hx] at ex;have hB:=hb _ (fS hi);generalize FL:l[i]'hi=c at *;obtain rfl:V.int c=v:=bM ex;refine⟨_,_,rfl,j3.of aL,rfl,_,_,rfl,_,_,rfl,rfl,aW rfl rfl rfl (bJ rfl rfl ?c1 (bJ rfl rfl ?c2 (bG rfl rfl ?e1)))⟩
   case c1=>exact⟨b6 J9 J9,b6 Kf J9⟩
   case c2=>exact⟨Kf,Kf,b6 Kf J9⟩
   case e1 =>
    have e:=JA hx;rw[show 8*i=(8*(i:Int)).toNat by omega] at e;exact⟨⟨_,_,by rw[e];rfl⟩,sm.trans (ai hT)⟩
  ·rintro σ H' ⟨⟨p,b,rfl⟩,sm⟩;refine⟨⟨_,sm.seq o1,by simp⟩,?_⟩;refine bg rfl ⟨sm,?r1⟩
   case r1=>exact bD q (by rw[tO])
end
theorem ma {J:It} {g:TG} {te:TE} {vs:List Nat} {σ:L2.St} {H1:Hp} {D:Addr} {Qd:Hp→Prop} (n:Nat) (hn:n≤sizeLine) (hD:H1 D=none) (R:Nat→V→Hp→Prop)
  (mS:∀i v H H',aI H H'→R i v H→R i v H') (mD:∀i v H acc pF,H D=some (.lst acc)→R i v H→R i v (upd H D (.lst pF)))
  (hs:∀i H (Kx:V→Hp→Prop),i<n→aI H1 H→(∀v H4,aI H H4→R i v H4→Kx v H4)→J.go i H∧∀x H',J.Ki i H x H'→g x (wipe σ vs) H' fun σ2 H2=>wipe σ2 vs=wipe σ vs∧te σ2 H2 Kx)
  (he:∀H acc,aI H1 H→H D=some (.lst acc)→acc.length=n→(∀i v,acc[i]?=some v→R i v H)→J.stop n H∧Qd H) :
  ∃W:Nat→Nat→Hp→Prop,(∃m,W 0 m (upd H1 D (.lst [])))∧∀i m H,W i m H →
   (J.stop i H∧Qd H)∨(J.go i H∧∃Nx:Hp→Prop,(∀H',Nx H'→∃m',m'<m∧W (i+1) m' H')∧∀x H',J.Ki i H x H'→g x (wipe σ vs) H' fun σ2 H2=>wipe σ2 vs=wipe σ vs∧Vr σ2 H2 fun b H3 =>
    if b=true then te σ2 H3 fun y H4=>∃acc,H4 D=some (.lst acc)∧acc.length<sizeLine∧Nx (upd H4 D (.lst (acc++[y]))) else Nx H3):=by
 refine⟨fun i m H=>i≤n∧m=n-i∧aI H1 H∧∃acc,H D=some (.lst acc)∧acc.length=i∧∀j v,acc[j]?=some v→R j v H,⟨_,iA n,rfl,ai hD,[],aL,rfl,fun j v e=>by simp at e⟩,?_⟩;rintro i m H ⟨hi,rfl,sm,acc,ha,hl,hr⟩;rcases Nat.lt_or_eq_of_le hi with l | e
 ·have key:=hs i H (fun y H4=>∃acc,H4 D=some (.lst acc)∧acc.length<sizeLine∧(aI H1 (upd H4 D (.lst (acc++[y])))∧∃pF,(upd H4 D (.lst (acc++[y]))) D=some (.lst pF)∧pF.length=i+1∧∀j v,pF[j]?=some v→R j v (upd H4 D (.lst (acc++[y]))))) l sm fun v H4 s4 r4=>by
   have h4:H4 D=some (.lst acc):=s4 _ _ ha;refine⟨acc,h4,Kf,fun b o e=>?_,acc++[v],aL,by simp[hl],fun j u e=>?_⟩
   ·rw[b7 (fun z=>by rw[z,hD] at e;cases e)];exact s4 _ _ (sm _ _ e)
   ·refine mD _ _ _ acc _ h4 ?_;by_cases c:j<acc.length
    ·rw[uf c] at e;exact mS _ _ _ _ s4 (hr j u e)
    ·rw[ue Kf] at e;have hj:j=i:=by
      have:=(g9.mp e).1;simp at this;omega
     subst hj;rw[hl,Nat.sub_self] at e;obtain rfl:v=u:=by simpa using e
     exact r4
  refine .inr ⟨key.1,fun H'=>aI H1 H'∧∃pF,H' D=some (.lst pF)∧pF.length=i+1∧∀j v,pF[j]?=some v→R j v H',fun H' q=>⟨n-(i+1),Kf,l,rfl,q⟩,key.2⟩
 ·exact .inl (by rw[e];exact he H acc sm ha Kf hr)
theorem MR {acc:List V} {n:Nat} {f:Nat→Int} (hl:acc.length=n) (h:∀(i:Nat) (v:V),acc[i]?=some v→v=V.int (f i)):acc=((List.range n).map f).map V.int:=by
 refine j4 fun i=>?_;by_cases c:i<n
 ·rw[bI Kf,h i _ (bI Kf)];simp[c]
 ·rw[eO Kf,eO (by simp;omega)]
section
variable {P:Program} {w:World} {K:aP} {mg:Str→Option Value} {base:Heap} {C C2 C3:Addr}
def zV (K:aP) (C:Addr):Sp:=fun vs H Q _=>∃k x,vs=[.int k,.int x]∧(VK k∧0≤x)∧∀a H',aI H H'→H' a=some (.lst ((BF.uu (BF.fm k) x).map V.int))→Q (.ref a) H'
theorem lH:aD ["kind","bits","place"] ["kind","bits"] (ay (top 17)):=bz
theorem CQ (ak:Ev K mg C C2 C3):cw P w K mg base "row_of_bits" ["kind","bits"] 2 (zV K C):=by
 have T:=ak.T;refine cQ (ak.df 12) lH lp (lr fun f bw A outer s H Q E hr k x h=>?_);obtain⟨hp,q⟩:=h;refine⟨_,aj (aq (uM rfl lH.nd (uB rfl T.wK (aa (pf (jC ak) hr (aa (pv 0) (ae))) (ae))) (own:=[("place",2)]) (jj rfl) (fun _ _ _ _ _=>eK (i:=2) lH.nd rfl (Or.inl rfl)) (fun _ _ _ _ _=>kf) (fun _ _ _ _ _=>aH Mi (aH Mh (pv 1) (aH cK (al) (pv 2))) (al)))),cP rfl rfl ?p1 (eG rfl ?c1 ⟨?c2,fun D1 yl=>?k1⟩)⟩
 case p1=>exact hp.1
 all_goals have JB:=BF.gz k
 case c1=>omega
 case c2=>omega
 case k1 =>
  refine ma (BF.nb (BF.fm k)).toNat (by have:=sI;unfold sizeLine;omega) yl (fun i v _=>v=.int (x/2^(8*i)%256)) (fun _ _ _ _ _ e=>e) (fun _ _ _ _ _ _ e=>e) ?_ ?_
  ·rintro i H' Kx hi si hK;refine⟨hi,?_⟩;rintro x1 H2 ⟨rfl,rfl⟩;refine⟨rfl,aR rfl rfl (bJ rfl rfl ?c3 (bJ rfl rfl ?c4 (bG rfl rfl ?e1)))⟩
   case c3=>exact⟨b6 J9 J9,b6 Kf J9⟩
   case c4=>show (0:Int)≤8*(0+i);omega
   case e1 =>
    refine hK _ _ (aI.refl _) (a7 V.int ?_);rw[show (8*(0+(i:Int))).toNat=8*i by omega];exact P2.vR 8 (f7 hp.2 (bo (BF.aX _)))
  ·intro H2 acc mV rX hl hv;have e:acc=(BF.uu (BF.fm k) x).map V.int:=by
    unfold BF.uu;exact MR hl fun i v e=>hv i v e
   subst e;refine⟨bB _,?_⟩;refine q _ _ (mV) (b4 (rX) ?r1)
   case r1=>rfl
end
theorem JC {X:Cx} {K:aP} {es:List Expr} {k:Nat} {t:Ht} {n:Nat} {pos:Pos} (hK:X.K=K) (hc:X.calm=true) (h:Po X es t)
  (hn:(assignEach es X.env).length=n:=by rfl) (qO:(assignEach es X.env).findIdx? (·.1)=none:=by rfl):PG X (.Tuple es k pos) (Vh K n t):=by
 subst hK;exact Aj hc h hn qO
theorem RF {L:List Nat} {j:Nat} (h:L.length=2^j):lB (List.map (fun (c:Nat)=>V.int c) L) 0=some (.int (L.headD 0:Nat)):=by
 cases L with
 | nil=>have:=cV j;simp at h;omega
 | cons x r=>unfold lB xK;simp
theorem UH (L:List Nat):gb (List.map (fun (c:Nat)=>V.int c) L) none (some (((List.map (fun (c:Nat)=>V.int c) L).length:Int)/2))=List.map (fun (c:Nat)=>V.int c) (L.take (L.length/2)):=by
 unfold gb;rw[aF,show ((L.length:Int)/2)=((L.length/2:Nat):Int) by omega,HT.sP,HT.oR,xF,Nat.sub_zero,oH,mr Kf]
theorem UI (L:List Nat):gb (List.map (fun (c:Nat)=>V.int c) L) (some (((List.map (fun (c:Nat)=>V.int c) L).length:Int)/2)) none=List.map (fun (c:Nat)=>V.int c) (L.drop (L.length/2)):=by
 unfold gb;rw[aF,show ((L.length:Int)/2)=((L.length/2:Nat):Int) by omega,HT.sP,HT.oR,oK,mr Kf,m7 (by simp)]
theorem ym (o:Int):1≤BF.fN o∧BF.fN o≤8:=by
 unfold BF.fN;split
 ·decide
 ·split
  ·decide
  ·split<;>decide
theorem OL (n:Nat):(List.replicate n [V.int 0]).flatten=List.replicate n (V.int 0):=by
 induction n with
 | zero=>rfl
 | succ n ih=>rw[my,my,uo,ih];rfl
theorem OM {o:Int} (h:0≤o∧o≤3):lB [V.int 1,.int 2,.int 4,.int 8] o=some (.int (BF.fN o:Nat)):=by
 rcases BF.ur h.1 h.2 with rfl | rfl | rfl | rfl<;>rfl
section
variable {P:Program} {w:World} {K:aP} {mg:Str→Option Value} {base:Heap} {C C2 C3:Addr}
def w4 (K:aP) (C:Addr):Sp:=fun vs H Q _=>∃k x y,vs=[.int k,.int x,.int y]∧(VB k x∧VB k y)∧∀a H',aI H H'→eP C H' a (BF.gr (BF.ta (BF.fm k) x) (BF.ta (BF.fm k) y))→Q (.ref a) H'
theorem w6:aD ["kind","a","b"] ["kind","a","b"] (ay (top 106)):=bz
theorem pG (ak:Ev K mg C C2 C3):cw P w K mg base "exact_product" ["kind","a","b"] 5 (w4 K C):=by
 have T:=ak.T;refine cQ (ak.df 69) w6 lW (lX fun f bw A outer s H Q E hr k x y h=>?_);obtain⟨hp,q⟩:=h;refine⟨_,aj (aq (pf (Cm ak) hr (aa (pf (bA ak) hr (aa (pv 0) (aa (pv 1) (ae)))) (aa (pf (bA ak) hr (aa (pv 0) (aa (pv 2) (ae)))) (ae))))),br rfl rfl rfl ?p1 (fun a1 H1 s1 x1=>br rfl rfl rfl ?p2 (fun a2 H2 s2 x2=>il rfl ((x1).same s2) (x2) ?p3 (fun a3 H3 s3 x3=>q _ _ (((s1).trans s2).trans s3) (gg (x3) ?r1))))⟩
 case p1=>exact hp.1
 case p2=>exact hp.2
 case p3=>exact⟨(cM hp.1).eb J9 J9 J9,(cM hp.2).eb J9 J9 J9⟩
 case r1=>rfl
def zW (K:aP) (C:Addr):Sp:=fun vs H Q _=>∃o,vs=[.int o]∧(0≤o∧o≤3)∧∀a H',H a=none→aI H H'→H' a=some (.lst (List.replicate (BF.fN o) (V.int 0)))→Q (.ref a) H'
theorem zX:aD ["order"] ["order"] (ay (top 110)):=bz
theorem rY (ak:Ev K mg C C2 C3):cw P w K mg base "empty_lanes" ["order"] 1 (zW K C):=by
 have T:=ak.T;refine cQ (ak.df 73) zX tW (tX fun f bw A outer s H Q E hr o h=>?_);obtain⟨hp,q⟩:=h;refine⟨_,aj (aq (aH S3 (dw (aa (al) (ae))) (ia T.Xr rfl (pv 0)))),⟨(by show _≤sizeLine;decide),fun l1 dC=>bP rfl rfl (OM hp) (jr rfl rfl (aL) ⟨?c1,?c2,?c3,fun l2 fk=>?r1⟩)⟩⟩
 all_goals have lb:=ym o
 case c1=>omega
 case c2=>omega
 case c3=>show 1*_≤sizeLine;unfold sizeLine;omega
 case r1=>exact q _ _ ((ai dC).free fk) ((ai dC).trans (ai fk)) (b4 aL (by rw[aN];exact OL _))
def vh (K:aP) (C:Addr):Sp:=fun vs H Q _=>∃k m a l,vs=[.int k,.int m,.ref a]∧(bU K H a (List.map (fun (c:Nat)=>V.int c) l))∧(VM m∧VK k∧(∀x∈l,x<2*(BF.fm k).sign)∧∃j,j≤3∧l.length=2^j)∧Q (.int ((BF.fm k).halved (BF.md m) l.length l:Nat)) H
theorem gB:aD ["kind","mode","lanes","half","a","b"] ["kind","mode","lanes"] (ay (top 111)):=bz
theorem oa (ak:Ev K mg C C2 C3):cw P w K mg base "lanes_together" ["kind","mode","lanes"] 6 (vh K C):=by
 have T:=ak.T;refine bc (ak.df 74) gB qS (qT fun f bw A outer s H Q E hr k m a l h=>?_);obtain⟨o1,⟨hm,hk,hx,j,hj,hl⟩,q⟩:=h;refine⟨_,ah (jO PassesOwn.never (cy (b8 eX (bW cx rfl T.iq PySem.boot_len (aa (pv 2) (ae))) (al))) (ah (sv 3 gB.nd (aH ip (bW cx rfl T.iq PySem.boot_len (aa (pv 2) (ae))) (al))) (aj (EV (i:=2) rfl gB.nd rfl rfl (HW rfl rfl rfl rfl) (Mp rfl T.Q5 (aa (eV fW (pv 2) (i8) (dS (pv 3))) (aa (eV fW (pv 2) (dS (pv 3)) (i8)) (ae)))) (own:=[("a",4),("b",5)]) (jj rfl) (fun _ _ _ _ _=>JC (K:=K) (n:=2) rfl rfl (iR (eK (i:=4) gB.nd rfl (Or.inl rfl)) (iR (eK (i:=5) gB.nd rfl (Or.inl rfl)) (rd)))) (fun _ _ _ _ _=>kf) (fun _ _ _ _ _=>pf (wW ak) hr (aa (pv 0) (aa (pv 1) (aa (pv 4) (aa (pv 5) (ae)))))))))) (aj (aq (ek aZ (pv 2) (al)))),?w1⟩
 case w1 =>
  refine gU (fun (L:List Nat) σ H'=>(∃a2 h3 h4 h5,σ=[some (.int k),some (.int m),some (.ref a2),h3,h4,h5]∧bU K H' a2 (List.map (fun (c:Nat)=>V.int c) L))∧aI H H'∧(∀x∈L,x<2*(BF.fm k).sign)∧∃j f,j≤f∧L.length=2^j∧L.length≤8∧(BF.fm k).halved (BF.md m) f L=(BF.fm k).halved (BF.md m) l.length l) (fun L=>L.length) l ?_ ?_
  ·exact⟨⟨_,_,_,_,rfl,o1⟩,aI.refl _,hx,j,l.length,by rw[hl];exact mw Nat.lt_two_pow_self,hl,by rw[hl];exact fb J9 hj,rfl⟩
  ·rintro L σ H' ⟨⟨a2,h3,h4,h5,rfl,o2⟩,sm,Ju,j2,f,hf,ON,h8,hh⟩;refine⟨(decide (1<(L.length:Int))),bP rfl rfl (.inl (o2)) (ck rfl rfl rfl ?d1),aK (fun h1=>bP rfl rfl (.inl (o2)) (bJ rfl rfl (u9 J9 J9) (aW rfl rfl rfl (bG rfl (o2) (fun l1 dC=>aW rfl rfl rfl (bG rfl (((ai dC)).seq (o2)) (fun l2 fk=>gj rfl (bU.of (((ai fk) _ _ (aL)))) (bU.of (aL)) (fun D3 hD3=>?k1)))))))) (fun h1=>bT rfl rfl rfl (o2) (RF ON) ⟨sm,?r1⟩)⟩
   case d1=>exact⟨by rw[aF],rfl⟩
   case r1 =>
    have hle:L.length≤1:=by have:=df h1;omega
    exact bD q (by rw[←hh,BF.IL _ _ _ hle])
   case k1 =>
    have hgt:1<L.length:=by have:=dt h1;omega
    have hev:L.length=2*(L.length/2):=by
     cases j2 with
     | zero=>simp at ON;omega
     | succ j=>rw[gW] at ON;omega
    have e1:=UH L;have e2:=UI L;rw[e1,e2] at hD3 ⊢;rw[e1] at fk;generalize hA:L.take (L.length/2)=A at *;generalize hB:L.drop (L.length/2)=B at *;have la:A.length=L.length/2:=by rw[←hA,fM];omega
    have lb:B.length=L.length/2:=by rw[←hB,et];omega
    have q1:upd (upd H' l1 (.lst (List.map (fun (c:Nat)=>V.int c) A))) l2 (.lst (List.map (fun (c:Nat)=>V.int c) B)) l1=some (.lst (List.map (fun (c:Nat)=>V.int c) A)):=ai fk _ _ aL;have q2:upd (upd H' l1 (.lst (List.map (fun (c:Nat)=>V.int c) A))) l2 (.lst (List.map (fun (c:Nat)=>V.int c) B)) l2=some (.lst (List.map (fun (c:Nat)=>V.int c) B)):=aL;have s12:aI H' (upd (upd H' l1 (.lst (List.map (fun (c:Nat)=>V.int c) A))) l2 (.lst (List.map (fun (c:Nat)=>V.int c) B))):=(ai dC).trans (ai fk);refine ma (L.length/2) (by unfold sizeLine;omega) hD3 (fun i v _=>∃x y,A[i]?=some x∧B[i]?=some y∧v=.int ((BF.fm k).add (BF.md m) x y:Nat)) (fun _ _ _ _ _ e=>e) (fun _ _ _ _ _ _ e=>e) ?_ ?_
    ·intro i Hi Kx hi si hK;have xa:A[i]?=some (A[i]'Kf):=bI Kf;have xb:B[i]?=some (B[i]'Kf):=bI Kf;refine⟨⟨_,_,_,_,bU.of (si _ _ q1),bU.of (si _ _ q2),by rw[aT,xa];rfl,by rw[aT,xb];rfl⟩,?_⟩;rintro v H2 ⟨T,x,y,rfl,hT,rfl,ha,hb⟩;have ex:=ha _ (bU.of (si _ _ q1));have ey:=hb _ (bU.of (si _ _ q2));rw[aT,xa] at ex;rw[aT,xb] at ey;have ba:A[i]'Kf<2*(BF.fm k).sign:=Ju _ (HR (i:=L.length/2) (by rw[hA];exact fS _));have bb:B[i]'Kf<2*(BF.fm k).sign:=Ju _ (List.mem_of_mem_drop (i:=L.length/2) (by rw[hB];exact fS _));generalize A[i]'Kf=c at *;generalize B[i]'Kf=d at *;obtain rfl:V.int (c:Int)=x:=bM ex;obtain rfl:V.int (d:Int)=y:=bM ey;refine⟨_,_,rfl,j3.of aL,rfl,_,_,rfl,_,_,rfl,rfl,⟨rfl,ax rfl rfl rfl rfl (gJ rfl ?p1 ?e1)⟩⟩
     case p1=>exact⟨hm,ir hk ba,ir hk bb⟩
     case e1=>exact hK _ _ (ai hT) ⟨c,d,xa,xb,rfl⟩
    ·intro H2 acc mV rX hlen hv;refine⟨⟨_,_,bU.of (mV _ _ q1),bU.of (mV _ _ q2),.inl (by rw[aF];omega)⟩,?_⟩;have ea:acc=List.map (fun (c:Nat)=>V.int c) ((A.zip B).map fun (p:Nat×Nat)=>(BF.fm k).add (BF.md m) p.1 p.2):=by
      refine j4 fun i=>?_;by_cases c:i<L.length/2
      ·have hi:acc[i]?=some (acc[i]'Kf):=bI Kf;obtain⟨x,y,xa,xb,e⟩:=hv i _ hi;rw[hi,e,aT,aT,JZ (z:=(x,y)) |>.mpr ⟨xa,xb⟩];rfl
      ·rw[eO Kf,eO (by simp;omega)]
     refine ?e2
     case e2 =>
      obtain⟨f',rfl⟩:∃f',f=f'+1:=by
       cases f with
       | zero=>exfalso;obtain rfl:j2=0:=Kf;simp at ON;omega
       | succ f'=>exact⟨f',rfl⟩
      obtain⟨j',rfl⟩:∃j',j2=j'+1:=by
       cases j2 with
       | zero=>exfalso;simp at ON;omega
       | succ j'=>exact⟨j',rfl⟩
      have hg:=BF.K9 (BF.fm k) (BF.md m) f' (l:=L) Kf;rw[hA,hB] at hg;have nl:((A.zip B).map fun (p:Nat×Nat)=>(BF.fm k).add (BF.md m) p.1 p.2).length=L.length/2:=by
       rw[aF,DR];omega
      refine⟨(A.zip B).map fun (p:Nat×Nat)=>(BF.fm k).add (BF.md m) p.1 p.2,⟨⟨_,_,_,_,rfl,bU.of (b4 rX ea)⟩,(sm.trans s12).trans mV,?_,j',f',Kf,by rw[nl,ON,gW];omega,Kf,hg.symm.trans hh⟩,by rw[nl];omega⟩;intro x hx2;obtain⟨p,_,rfl⟩:=ju.mp hx2;exact BF.ez (BF.dk k) (BF.fL _ (BF.dk k) _ _ _)
end
structure OO (K:aP) (C2:Addr):Prop where
 cl:zu K C2
 total:f9 K C2 "total"
def gk (C C2:Addr) (H:Hp) (b:Addr) (u:BF.Ex):Prop:=∃dx a,H b=some (.ins C2 dx [("total",.ref a)])∧eP C H a u
def SB (b:Addr) (H H':Hp):Prop:=∀c o,H c=some o→c≠b→H' c=some o
theorem XH {C C2:Addr} {H:Hp} {a b:Addr} {u:BF.Ex} {dx:Addr} {fs:List (Str×V)} (h:eP C H a u) (hb:H b=some (.ins C2 dx fs)) (hl:fs.length<5):a≠b:=by
 rintro rfl;obtain⟨OP,e⟩:=h;rw[hb] at e;injection e with e
 injection e with _ _ e3
 rw[e3] at hl;exact absurd hl (by show ¬5<5;decide)
def vi (C C2:Addr):Sp:=fun vs H Q _=>∃p dx,vs=[.ref p]∧H p=some (.ins C2 dx [])∧∀H':Hp,gk C C2 H' p (BF.gI 0)→SB p H H'→Q .fU H'
def rZ (C C2:Addr):Sp:=fun vs H Q _=>∃b u,vs=[.ref b]∧gk C C2 H b u∧∀H':Hp,gk C C2 H' b (BF.gI 0)→SB b H H'→Q .fU H'
def CS (C C2:Addr):Sp:=fun vs H Q _=>∃b a u v,vs=[.ref b,.ref a]∧gk C C2 H b u∧eP C H a v∧(EB u∧EB v)∧∀H':Hp,gk C C2 H' b (BF.cG .near u v)→SB b H H'→Q .fU H'
def kU (C C2:Addr):Sp:=fun vs H Q _=>∃b u k m,vs=[.ref b,.int k,.int m]∧gk C C2 H b u∧(VK k∧VM m∧PB u)∧Q (.int (if BF.bC u=true then BF.ws (BF.fm k) (BF.md m).isDown 0 else ((BF.fm k).ofKind (BF.md m) u.kind:Nat))) H
section
variable {P:Program} {w:World} {K:aP} {mg:Str→Option Value} {base:Heap} {C C2 C3:Addr}
theorem LW:aD ["self"] ["self"] (ay (inClass (top 105) 0)):=bz
theorem CU:aD ["self"] ["self"] (ay (inClass (top 105) 1)):=bz
theorem RG:aD ["self","u"] ["self","u"] (ay (inClass (top 105) 2)):=bz
theorem yn:aD ["self","kind","mode"] ["self","kind","mode"] (ay (inClass (top 105) 3)):=bz
abbrev JD (P:Program) (w:World) (K:aP) (mg:Str→Option Value) (base:Heap) (k:Nat) (f:Addr) (fd:FuncData) (ps:List Str) (sp:Sp):Prop:=jy P w K mg base Bl k f fd ps sp
theorem GW {H1:Hp} {p a dx:Addr} {u:BF.Ex} {fs:List (Str×V)} (hp:H1 p=some (.ins C2 dx fs)) (hl:fs.length<5) (hf:kF "total" (V.ref a) fs=[((Str.ofString "total",V.ref a):Str×V)]) (x:eP C H1 a u) :
  gk C C2 (upd H1 p (.ins C2 dx (kF "total" (.ref a) fs))) p u:=by
 refine⟨dx,a,by rw[aL,hf],?_⟩;obtain⟨d,e⟩:=x;exact⟨d,by rw[b7 (XH ⟨d,e⟩ hp hl)];exact e⟩
theorem GX {H H1:Hp} {p:Addr} {o:HO} (s:aI H H1):SB p H (upd H1 p o):=fun c u e n=>by rw[b7 n];exact s c u e
theorem OQ {f:Addr} {fd:FuncData} (ak:Ev K mg C C2 C3) (c:OO K C2) (F:xO K "__init__" "Accumulator.__init__" (inClass (top 105) 0) f fd):JD P w K mg base 5 f fd ["self"] (vi C C2):=by
 refine F.ok LW (fun vs H Q E h=>?_) (fun bw A outer s H vs Q E hr h=>?_)
 ·obtain⟨p,dx,rfl,_⟩:=h;rfl
 ·obtain⟨p,dx,rfl,hp,k⟩:=h;refine⟨_,aj (nM (pv 0) (pf (rT ak) hr (aa al ae)) rfl),?_⟩;exact⟨_,rfl,trivial,fun a1 H1 s1 x1=>⟨_,rfl,p,C2,dx,_,rfl,s1 _ _ hp,c.cl,c.total,(by show 0<1000;decide),k _ (GW (s1 _ _ hp) J9 rfl x1) (GX s1)⟩⟩
theorem Em {f:Addr} {fd:FuncData} (ak:Ev K mg C C2 C3) (c:OO K C2) (F:xO K "make_empty" "Accumulator.make_empty" (inClass (top 105) 1) f fd):JD P w K mg base 5 f fd ["self"] (rZ C C2):=by
 refine F.ok CU (fun vs H Q E h=>?_) (fun bw A outer s H vs Q E hr h=>?_)
 ·obtain⟨p,dx,rfl,_⟩:=h;rfl
 ·obtain⟨p,u,rfl,⟨dx,a,hp,x⟩,k⟩:=h;refine⟨_,aj (nM (pv 0) (pf (rT ak) hr (aa al ae)) rfl),?_⟩;exact⟨_,rfl,trivial,fun a1 H1 s1 x1=>⟨_,rfl,p,C2,dx,_,rfl,s1 _ _ hp,c.cl,c.total,(by show 1<1000;decide),k _ (GW (s1 _ _ hp) (by show 1<5;decide) rfl x1) (GX s1)⟩⟩
theorem UK {f:Addr} {fd:FuncData} (ak:Ev K mg C C2 C3) (c:OO K C2) (F:xO K "take" "Accumulator.take" (inClass (top 105) 2) f fd):JD P w K mg base 5 f fd ["self","u"] (CS C C2):=by
 refine F.ok RG (fun vs H Q E h=>?_) (fun bw A outer s H vs Q E hr h=>?_)
 ·obtain⟨b,a,u,v,rfl,_⟩:=h;rfl
 ·obtain⟨b,a,u,v,rfl,⟨dx,a0,hb,x⟩,y,hp,k⟩:=h;refine⟨_,aj (nM (pv 0) (pf (wQ ak) hr (aa (FQ (pv 0) rfl) (aa (pv 1) (aa (aG ak.T.e7 rfl) ae)))) rfl),?_⟩;exact⟨_,rfl,b,C2,dx,_,_,rfl,hb,c.cl,c.total,rfl,_,rfl,_,_,_,_,_,rfl,x,y,⟨hp.1,hp.2,l0⟩,fun a1 H1 s1 x1=>⟨_,rfl,b,C2,dx,_,rfl,s1 _ _ hb,c.cl,c.total,(by show 1<1000;decide),k _ (GW (s1 _ _ hb) (by show 1<5;decide) rfl x1) (GX s1)⟩⟩
theorem zY {f:Addr} {fd:FuncData} (ak:Ev K mg C C2 C3) (c:OO K C2) (F:xO K "rounded_once" "Accumulator.rounded_once" (inClass (top 105) 3) f fd):JD P w K mg base 5 f fd ["self","kind","mode"] (kU C C2):=by
 refine F.ok yn (fun vs H Q E h=>?_) (fun bw A outer s H vs Q E hr h=>?_)
 ·obtain⟨b,u,k,m,rfl,_⟩:=h;rfl
 ·obtain⟨b,u,k,m,rfl,⟨dx,a0,hb,x⟩,⟨hk,hm,hp⟩,q⟩:=h;refine⟨_,ah (aS (aQ (pf (fO ak) hr (aa (FQ (pv 0) rfl) ae))) (aj (aq (pf (fD ak) hr (aa (pv 1) (aa (iz bp (pv 2) (aG ak.T.Ft rfl)) (aa al ae)))))) aB) (aj (aq (pf (gf ak) hr (aa (pv 1) (aa (pv 2) (aa (FQ (pv 0) rfl) ae)))))),?_⟩;refine⟨_,rfl,b,C2,dx,_,_,rfl,hb,c.cl,c.total,rfl,_,_,rfl,x,trivial,_,rfl,aK (fun h1=>⟨_,rfl,_,rfl,_,_,rfl,rfl,_,_,_,rfl,hk,?r1⟩) (fun h1=>⟨_,rfl,_,rfl,_,rfl,b,C2,dx,_,_,rfl,hb,c.cl,c.total,rfl,_,_,_,_,rfl,x,⟨hk,hm,hp⟩,?r2⟩)⟩
  case r1=>exact bD q (by rw[ao h1,Ch hm])
  case r2=>exact bD q (by rw[ag h1])
end
structure AB (n:Nat) (u:BF.Ex):Prop where
 s0:0≤u.size
 lo:-2148≤u.power
 hi:u.power≤4094
 sz:u.size*2^(u.power+2148).toNat≤(n:Int)*2^6350
theorem JE {n m:Nat} {u:BF.Ex} (h:AB n u) (e:n≤m):AB m u :=
 ⟨h.s0,h.lo,h.hi,tP h.sz (i4 Kf (bo (BF.aX _)))⟩
theorem UL {v:BF.Ex} (h:Wd (-2148) 4094 106 v):AB 1 v:=by
 refine⟨h.1,h.2.2.1,h.2.2.2,?_⟩;have a:v.size≤2^106:=by have:=h.2.1;unfold Sm at this;have e:=BF.bO 106;omega
 have b:(2:Int)^(v.power+2148).toNat≤2^6242:=BF.gO (by have:=h.2.2;omega);have c:v.size*2^(v.power+2148).toNat≤2^106*2^6242:=Int.mul_le_mul a b (bo (BF.aX _)) (bo (BF.aX _));rw[←ji] at c;have d:(2:Int)^(106+6242)≤2^6350:=BF.gO J9;rw[J1,dc];exact tP c d
theorem w8 (n:Nat) {u:BF.Ex} (s:u.size=0) (lo:-2148≤u.power) (hi:u.power≤4094):AB n u:=by
 refine⟨Kf,lo,hi,?_⟩;rw[s,Int.zero_mul];exact fE Kf (bo (BF.aX _))
theorem o7 {u:BF.Ex} {p:Int} (h0:0≤u.size) (h:p≤u.power) (hl:-2148≤p):((BF.cnt u p).natAbs:Int)*2^(p+2148).toNat=u.size*2^(u.power+2148).toNat:=by
 have e:((BF.cnt u p).natAbs:Int)=u.size*2^(u.power-p).toNat:=by
  have nn:0≤u.size*2^(u.power-p).toNat:=fE h0 (bo (BF.aX _));unfold BF.cnt BF.eH;split<;>omega
 rw[e,DK,←ji,show (u.power-p).toNat+(p+2148).toNat=(u.power+2148).toNat by omega]
theorem CV {n:Nat} {m:Lw.Mode} {u v:BF.Ex} (hu:AB n u) (hv:Wd (-2148) 4094 106 v):AB (n+1) (BF.cG m u v):=by
 have RH:=UL hv;have l1:=hu.lo;have l2:=RH.lo;have i1:=hu.hi;have i2:=RH.hi;unfold BF.cG;split
 ·exact w8 _ rfl J9 J9
 ·split
  ·exact w8 _ rfl J9 J9
  ·split
   ·split
    ·exact JE hu Kf
    ·exact JE RH Kf
   ·dsimp only;split
    ·exact w8 _ rfl (by show -2148≤min u.power v.power;omega) (by show min u.power v.power≤4094;omega)
    ·refine⟨by show (0:Int)≤((_:Nat):Int);omega,by show -2148≤min u.power v.power;omega,by show min u.power v.power≤4094;omega,?_⟩;show ((BF.cnt u (min u.power v.power)+BF.cnt v (min u.power v.power)).natAbs:Int)*2^(min u.power v.power+2148).toNat≤_;have a:=o7 (u:=u) (p:=min u.power v.power) hu.s0 Kf Kf;have b:=o7 (u:=v) (p:=min u.power v.power) RH.s0 Kf Kf;have c:((BF.cnt u (min u.power v.power)+BF.cnt v (min u.power v.power)).natAbs:Int)≤((BF.cnt u (min u.power v.power)).natAbs:Int)+((BF.cnt v (min u.power v.power)).natAbs:Int):=by omega
     have d:=i4 c (bo (BF.aX (min u.power v.power+2148).toNat));rw[lA,a,b] at d;have s1:=hu.sz;have s2:=RH.sz;rw[J1,dc] at s2;rw[cJ,J1,lA,dc];exact tP d (Int.add_le_add s1 s2)
theorem AB.pb {n:Nat} {u:BF.Ex} (h:AB n u) (hn:n≤2^64):PB u:=by
 have a:u.size≤u.size*2^(u.power+2148).toNat:=by
  have:=qB (show (1:Int)≤2^(u.power+2148).toNat from BF.aX _) h.s0;rwa [Int.mul_one] at this
 have b:(n:Int)*2^6350≤2^64*2^6350:=i4 Kf (bo (BF.aX _));rw[←ji] at b;have c:(2:Int)^(64+6350)<2^8800:=Int.pow_lt_pow_of_lt J9 J9;exact⟨h.s0,Rc h.s0 (qX (tP a (tP h.sz b)) c),by have:=h.lo;omega,by have:=h.hi;omega⟩
theorem tI:AB 0 (BF.gI 0):=w8 _ rfl J9 J9
theorem GY {k x:Int} (h:VB k x):Wd (-2148) 4094 106 (BF.ta (BF.fm k) x):=(cM h).mono J9 J9 J9
theorem w9 {k x y:Int} (h:VB k x) (h2:VB k y):Wd (-2148) 4094 106 (BF.gr (BF.ta (BF.fm k) x) (BF.ta (BF.fm k) y)):=tx (cM h) (cM h2) J9 J9
def UM (K:aP) (C:Addr) (H:Hp) (a:Addr) (us:List BF.Ex):Prop:=∃rs:List Addr,bU K H a (rs.map V.ref)∧rs.length=us.length∧∀(i:Nat) (r:Addr) (u:BF.Ex),rs[i]?=some r→us[i]?=some u→eP C H r u
structure vj (P:Program) (w:World) (K:aP) (mg:Str→Option Value) (base:Heap) (C C2:Addr):Prop where
 c:OO K C2
 name:mg "Accumulator"=some (.ref C2)
 init:∃f fd,Mk K C2 f∧JD P w K mg base 5 f fd ["self"] (vi C C2)∧Binds K fd ["self"] []
 empty:∃f fd,EL K C2 "make_empty" f∧JD P w K mg base 5 f fd ["self"] (rZ C C2)∧Binds K fd ["self"] []
 take:∃f fd,EL K C2 "take" f∧JD P w K mg base 5 f fd ["self","u"] (CS C C2)∧Binds K fd ["self","u"] []
 once:∃f fd,EL K C2 "rounded_once" f∧JD P w K mg base 5 f fd ["self","kind","mode"] (kU C C2)∧Binds K fd ["self","kind","mode"] []
section
variable {X:Cx} {C C2:Addr} {k:Nat} {p pos apos:Pos} {e o:Expr} {es:List Expr} {t:TA} {ta:TE}
theorem MS (h:vj X.prog X.w X.K X.mg X.base C C2) (hr:fj k X.A) (hk:6≤k) (hg:Gl X "Accumulator"):PE X (.Call (.Name "Accumulator" p) [] [] pos) (PK C2 (vi C C2) [] E0 EM):=by
 obtain⟨f,fd,M,F,hb⟩:=h.init;exact Nq M F (hr.mono hk) hg h.name hb .nil qb
theorem RI (h:vj X.prog X.w X.K X.mg X.base C C2) (hr:fj k X.A) (hk:5≤k) (he:PE X o ta) (ha:PA X (e::es) t)
  (qO:starEach (e::es) X.env=(false,eval e X.env)::starEach es X.env:=by rfl) (gG:(backTo pos (starEach es X.env)).any (·.1)=false:=by rfl) {pl:Sem Bool}
  (ht:eval (.Call (.Attribute o "take" apos) (e::es) [] pos) X.env=(do
   let ov ←eval o X.env
   standAt apos.atName
   let (f,first) ←holding [ov] (getMethod ov "take" pl)
   callWith pos f first (backTo pos (starEach (e::es) X.env)) (backToKw pos (keywordEach [] X.env))):=by rfl):PE X (.Call (.Attribute o "take" apos) (e::es) [] pos) (Kp C2 "take" (CS C C2) [] E0 ta t):=by
 obtain⟨f,fd,M,F,hb⟩:=h.take;exact HJ he h.c.cl M F (hr.mono hk) hb .nil qb ha qO gG ht
theorem RJ (h:vj X.prog X.w X.K X.mg X.base C C2) (hr:fj k X.A) (hk:5≤k) (he:PE X o ta) (ha:PA X (e::es) t)
  (qO:starEach (e::es) X.env=(false,eval e X.env)::starEach es X.env:=by rfl) (gG:(backTo pos (starEach es X.env)).any (·.1)=false:=by rfl) {pl:Sem Bool}
  (ht:eval (.Call (.Attribute o "rounded_once" apos) (e::es) [] pos) X.env=(do
   let ov ←eval o X.env
   standAt apos.atName
   let (f,first) ←holding [ov] (getMethod ov "rounded_once" pl)
   callWith pos f first (backTo pos (starEach (e::es) X.env)) (backToKw pos (keywordEach [] X.env))):=by rfl):PE X (.Call (.Attribute o "rounded_once" apos) (e::es) [] pos) (Kp C2 "rounded_once" (kU C C2) [] E0 ta t):=by
 obtain⟨f,fd,M,F,hb⟩:=h.once;exact HJ he h.c.cl M F (hr.mono hk) hb .nil qb ha qO gG ht
end
def vk (us:List BF.Ex):BF.Ex:=us.foldl (fun u v=>BF.cG .near u v) (BF.gI 0)
theorem FA (us:List BF.Ex) (h:∀u∈us,Wd (-2148) 4094 106 u):∀{n:Nat} {u0:BF.Ex},AB n u0→AB (n+us.length) (us.foldl (fun u v=>BF.cG .near u v) u0):=by
 induction us with
 | nil=>intro n u0 a;exact a
 | cons v r ih =>
  intro n u0 a;have:=ih (fun u hu=>h u (by simp[hu])) (CV (m:=.near) a (h v (by simp)));rw[show n+1+r.length=n+(v::r).length by simp;omega] at this;exact this
theorem RK (us:List BF.Ex) (h:∀u∈us,0≤u.size):∀{a:Lw.LongSum} {u0:BF.Ex},BF.Rel a u0→BF.Rel ((us.map BF.Ex.kind).foldl Lw.LongSum.add a) (us.foldl (fun u v=>BF.cG .near u v) u0):=by
 induction us with
 | nil=>intro a u0 r;exact r
 | cons v r ih=>intro a u0 hr;exact ih (fun u hu=>h u (by simp[hu])) (BF.BQ hr (h v (by simp)))
theorem LX (t:Lw.Fmt) (m:Lw.Mode) (us:List BF.Ex) (h:∀u∈us,0≤u.size):(BF.kQ t m (us.map BF.Ex.kind):Int)=if BF.bC (vk us)=true then BF.ws t m.isDown 0 else (t.ofKind m (vk us).kind:Nat):=by
 unfold BF.kQ;rw[BF.IE t m (RK us h BF.uZ)];show _=if BF.bC (us.foldl (fun u v=>BF.cG .near u v) (BF.gI 0))=true then _ else _
 split
 ·exact BF.o5 t m.isDown
 ·rfl
def Eo (K:aP) (C:Addr):Sp:=fun vs H Q _=>∃k m a us,vs=[.int k,.int m,.ref a]∧UM K C H a us∧(VK k∧VM m∧(∀u∈us,Wd (-2148) 4094 106 u)∧us.length≤1000)∧Q (.int (BF.kQ (BF.fm k) (BF.md m) (us.map BF.Ex.kind):Nat)) H
theorem oA:aD ["kind","mode","terms","accumulator","term"] ["kind","mode","terms"] (ay (top 107)):=bz
theorem LY {us:List BF.Ex} {i:Nat} {v:BF.Ex} (h:us[i]?=some v):vk (us.take (i+1))=BF.cG .near (vk (us.take i)) v:=by
 unfold vk;rw[sQ,h,xP,xC];rfl
theorem JF {H H1 H2:Hp} {b:Addr} (s:aI H H1) (nb:H b=none) (k:SB b H1 H2):aI H H2:=fun c o e=>k c o (s c o e) (da e nb)
section
variable {P:Program} {w:World} {K:aP} {mg:Str→Option Value} {base:Heap} {C C2 C3:Addr}
theorem zj (ak:Ev K mg C C2 C3):vj P w K mg base C C2:=by
 obtain⟨h,X,G⟩:=ak.h;obtain⟨cA,nA,m0,m1,m2,m3⟩:=ak.ac;obtain⟨f0,d0,e0,F0⟩:=Ce m0;obtain⟨f1,d1,e1,F1⟩:=Ce m1;obtain⟨f2,d2,e2,F2⟩:=Ce m2;obtain⟨f3,d3,e3,F3⟩:=Ce m3;have cc:OO K C2:=⟨cA.cl,nA⟩;exact⟨cc,PySem.W.mg_of X G cA.at_,⟨f0,d0,⟨cA.Zx,e0.at_,e0.fn,cA.kp⟩,OQ ak cc F0,F0.binds fun _ _ _ _ _ _=>BF.zC fun _=>rfl⟩,⟨f1,d1,e1,Em ak cc F1,F1.binds fun _ _ _ _ _ _=>BF.zC fun _=>rfl⟩,
  ⟨f2,d2,e2,UK ak cc F2,F2.binds fun _ _ _ _ _ _=>BF.zD fun _ _=>rfl⟩,⟨f3,d3,e3,zY ak cc F3,F3.binds fun _ _ _ _ _ _=>BF.BX fun _ _ _=>rfl⟩⟩
theorem xc (ak:Ev K mg C C2 C3):cw P w K mg base "exact_sum" ["kind","mode","terms"] 7 (Eo K C):=by
 refine bc (ak.df 70) oA qS (qT fun f bw A outer s H Q E hr k m a us h=>?_);obtain⟨hx,⟨hk,hm,hw,hn⟩,q⟩:=h;refine⟨_,ah (sv 3 oA.nd (MS (zj ak) hr J9 rfl)) (ah (nJ PassesOwn.never rfl (oO (pv 2)) (eK (i:=4) oA.nd rfl (Or.inl rfl)) (aj (mq (RI (zj ak) hr J9 (pv 3) (aa (pv 4) ae))))) (aj (aq (RJ (zj ak) hr J9 (pv 3) (aa (pv 0) (aa (pv 1) ae)))))),?_⟩;intro b dx nb nd ne;refine⟨b,dx,rfl,aL,fun H1 ac sb=>⟨rfl,?_⟩⟩;have s1:aI H H1:=aI.made nb nd sb;obtain⟨rs,sq,hl,hx⟩:=hx;refine⟨_,rfl,_,rfl,⟨_,s1.seq sq⟩,?_⟩;refine n9 us.length (fun i σ H'=>(∃t,σ=[some (.int k),some (.int m),some (.ref a),some (.ref b),t])∧aI H H'∧gk C C2 H' b (vk (us.take i))) ⟨⟨_,rfl⟩,s1,ac⟩ ?_ ?_
 ·rintro i σ H' hi ⟨⟨t,rfl⟩,sm,acc⟩;have e1:rs[i]?=some (rs[i]'Kf):=bI Kf;have e2:us[i]?=some (us[i]'hi):=bI hi;refine⟨⟨_,_,sm.seq sq,by rw[aT,e1];rfl⟩,?_⟩;rintro v H2 ⟨rfl,hv⟩;have ev:=hv _ (sm.seq sq);rw[aT,e1] at ev;have x:=(hx i _ _ e1 e2).same sm;have wv:=hw _ (fS hi);generalize us[i]'hi=u at *;generalize rs[i]'Kf=r at *;obtain rfl:V.ref r=v:=bM ev;obtain⟨OP,a0,hb,xa⟩:=acc;have ab:AB i (vk (us.take i)):=by
   have:=FA (us.take i) (fun u hu=>hw u (HR hu)) tI;rw[fM,mr Kf,lD] at this;exact this
  refine⟨_,rfl,b,OP,_,rfl,hb,rfl,_,rfl,b,r,_,_,rfl,⟨OP,a0,hb,xa⟩,x,⟨(ab.pb Kf).eb,wv.eb J9 J9 J9⟩,fun H3 ac3 Wu=>?_⟩;exact⟨⟨_,rfl⟩,JF sm nb Wu,by rw[LY e2];exact ac3⟩
 ·rintro σ H' ⟨⟨t,rfl⟩,sm,acc⟩;refine⟨⟨_,sm.seq sq,by simp[hl]⟩,?_⟩;rw[tO] at acc;obtain⟨OP,a0,hb,xa⟩:=acc;have ab:=FA us hw tI;rw[lD] at ab;refine⟨_,rfl,b,OP,_,rfl,hb,rfl,_,rfl,_,rfl,b,_,_,_,rfl,⟨OP,a0,hb,xa⟩,⟨hk,hm,ab.pb Kf⟩,sm,?_⟩;exact bD q (LX _ _ us fun u hu=>(hw u hu).1).symm
end
theorem CW {L:List Nat} {i:Nat} (h:0<L.length):xK (List.map (fun (c:Nat)=>V.int c) L).length ((i:Int)%((List.map (fun (c:Nat)=>V.int c) L).length:Int))=some (i%L.length):=by
 rw[aF];have e:(i:Int)%(L.length:Int)=((i%L.length:Nat):Int):=by omega
 rw[e];have:=fG i h;unfold xK;rw[ao Kf,ao Kf,aN]
theorem JG {L:List Nat} {i v:Nat} (h:0<L.length) (hv:L[i%L.length]?=some v):lB (List.map (fun (c:Nat)=>V.int c) L) ((i:Int)%((List.map (fun (c:Nat)=>V.int c) L).length:Int))=some (.int v):=by
 unfold lB;rw[CW h,yE,aT,hv];rfl
theorem CY {C:Addr} {H:Hp} {a D:Addr} {u:BF.Ex} {acc pF:List V} (hD:H D=some (.lst acc)) (x:eP C H a u):eP C (upd H D (.lst pF)) a u:=by
 obtain⟨dx,e⟩:=x;exact⟨dx,by rw[b7 (fun z=>by rw[z,hD] at e;cases e)];exact e⟩
theorem MT {K:aP} {C:Addr} {H:Hp} {D:Addr} {acc:List V} {us:List BF.Ex} (ha:H D=some (.lst acc)) (hl:acc.length=us.length) (hv:∀(i:Nat) (v:V),acc[i]?=some v→∃r u,v=.ref r∧us[i]?=some u∧eP C H r u):UM K C H D us:=by
 have e:acc=(acc.map fun v=>match v with | .ref r=>r | _=>0).map V.ref:=by
  rw[js];refine j4 fun i=>?_;rw[aT];cases h:acc[i]? with
  | none=>rfl
  | some v =>
   obtain⟨r,u,e,_⟩:=hv i v h;subst e;rfl
 refine⟨acc.map fun v=>match v with | .ref r=>r | _=>0,.inl (.inl (by rw[←e];exact ha)),by rw[aF];exact hl,fun i r u h1 h2=>?_⟩;rw[aT] at h1;cases h:acc[i]? with
 | none=>rw[h] at h1;cases h1
 | some v =>
  obtain⟨r',u',e,h3,x⟩:=hv i v h;subst e;rw[h] at h1;obtain rfl:r'=r:=bM h1;rw[h2] at h3;obtain rfl:u=u':=bM h3;exact x
theorem xf {α:Type} {t:Lw.Fmt} {g:Nat→α→Nat} {n:Nat} {l:List α} (hg:∀s x,g s x<2*t.sign) (ht:BF.Ok t):∀y∈BF.fZ g n l,y<2*t.sign:=by
 intro y hy;unfold BF.fZ at hy;obtain⟨i,_,rfl⟩:=ju.mp hy;rcases List.eq_nil_or_concat (Lw.every n i l) with e | ⟨r,b,e⟩
 ·rw[e];have:=BF.ez ht (BF.o4 t ht false);show 0<2*t.sign;omega
 ·rw[e,List.concat_eq_append,xC];exact hg _ _
theorem CZ {α:Type} (g:Nat→α→Nat) {n i:Nat} {l:List α} {c:α} (hn:0<n) (h:l[i]?=some c):∃v,(BF.fZ g n (l.take i))[i%(BF.fZ g n (l.take i)).length]?=some v∧BF.fZ g n (l.take (i+1))=(BF.fZ g n (l.take i)).set (i%(BF.fZ g n (l.take i)).length) (g v c):=by
 have hi:=(g9.mp h).1;have lt:(l.take i).length=i:=by rw[fM];omega
 have ln:(BF.fZ g n (l.take i)).length=n:=BF.iU _ _ _;obtain⟨v,hv⟩:∃v,(BF.fZ g n (l.take i))[i%n]?=some v:=⟨_,bI (by rw[ln];exact fG _ hn)⟩;refine⟨v,by rw[ln];exact hv,?_⟩;rw[sQ,h,xP,BF.K6 g hn (l.take i) c (by rw[lt];exact hv),lt,ln]
theorem C0 (o:Int):∃j,j≤3∧BF.fN o=2^j:=by
 unfold BF.fN;split
 ·exact⟨0,J9,rfl⟩
 ·split
  ·exact⟨1,J9,rfl⟩
  ·split
   ·exact⟨2,J9,rfl⟩
   ·exact⟨3,J9,rfl⟩
section
variable {P:Program} {w:World} {K:aP} {mg:Str→Option Value} {base:Heap} {C C2 C3:Addr}
def vm (K:aP) (C:Addr):Sp:=fun vs H Q _=>∃k o m a l,vs=[.int k,.int o,.int m,.ref a]∧(bU K H a (List.map (fun (c:Nat)=>V.int c) l))∧(VM m∧VK k∧(0≤o∧o≤4)∧(∀x∈l,x<2*(BF.fm k).sign)∧l.length≤64)∧Q (.int (BF.Ff (BF.fm k) (BF.md m) o l:Nat)) H
theorem fh:aD ["kind","order","mode","numbers","a","lanes","turn","lane"] ["kind","order","mode","numbers"] (ay (top 108)):=bz
theorem xg (ak:Ev K mg C C2 C3):cw P w K mg base "sum_of_numbers" ["kind","order","mode","numbers"] 8 (vm K C):=by
 have T:=ak.T;refine bc (ak.df 71) fh B0 (B3 fun f bw A outer s H Q E hr k o m a l h=>?_);obtain⟨o1,⟨hm,hk,ho,hx,hl⟩,q⟩:=h;refine⟨_,ah (aS (b8 bp (pv 1) (aG T.wJ rfl)) (aj (aq (pf (xc ak) hr (aa (pv 0) (aa (pv 2) (aa (uM rfl fh.nd (oO (pv 3)) (own:=[("a",4)]) (jj rfl) (fun _ _ _ _ _=>eK (i:=4) fh.nd rfl (Or.inl rfl)) (fun _ _ _ _ _=>kf) (fun _ _ _ _ _=>pf (bA ak) hr (aa (pv 0) (aa (pv 4) (ae))))) (ae))))))) (aB)) (ah (sv 5 fh.nd (pf (rY ak) hr (aa (pv 1) (ae)))) (ah (nJ PassesOwn.never rfl (Bg rfl T.qr (aa (pv 3) (ae))) (Aj rfl (iR (eK (i:=6) fh.nd rfl (Or.inl rfl)) (iR (eK (i:=4) fh.nd rfl (Or.inl rfl)) (rd)))) (ah (sv 7 fh.nd (aH jE (pv 6) (bW cx rfl T.iq PySem.boot_len (aa (pv 5) (ae))))) (aj (Md (pf (wW ak) hr (aa (pv 0) (aa (pv 2) (aa (ek aZ (pv 5) (pv 7)) (aa (pv 4) (ae)))))) (Mb (pv 5) (pv 7) set_list))))) (aj (aq (pf (oa ak) hr (aa (pv 0) (aa (pv 2) (aa (pv 5) (ae))))))))),aE rfl rfl rfl rfl (aK (fun h1=>aW rfl rfl rfl (eG rfl ⟨_,(o1)⟩ (fun D1 yl=>?k1))) (fun h1=>cP rfl rfl ?p3 (fun a3 H3 n3 s3 x3=>bP rfl rfl ((s3).seq (o1)) ?f1)))⟩
 case p3=>have:=df h1;omega
 case k1 =>
  have e4:=dt h1;refine ma l.length (by unfold sizeLine;omega) yl (fun i v Hx=>∃r u,v=.ref r∧l[i]?=some u∧eP C Hx r (BF.ta (BF.fm k) (u:Nat))) (fun i v Hx Hy XJ ⟨r,u,e,g,x⟩=>⟨r,u,e,g,x.same XJ⟩) (fun i v Hx acc pF hD ⟨r,u,e,g,x⟩=>⟨r,u,e,g,CY hD x⟩) ?_ ?_
  ·intro i Hi Kx hi si hK;have xa:l[i]?=some (l[i]'hi):=bI hi;refine⟨⟨_,_,si.seq o1,by rw[aT,xa];rfl⟩,?_⟩;rintro v H2 ⟨rfl,ha⟩;have ex:=ha _ (si.seq o1);rw[aT,xa] at ex;have ba:=hx _ (fS hi);generalize l[i]'hi=c at *;obtain rfl:V.int (c:Int)=v:=bM ex;refine⟨rfl,br rfl rfl rfl ?p1 (fun a2 H2 s2 x2=>?e1)⟩
   case p1=>exact ir hk ba
   case e1=>exact hK _ _ s2 ⟨a2,c,rfl,xa,x2⟩
  ·intro H2 acc mV ha hlen hv;have rX:UM K C H2 D1 (l.map fun (x:Nat)=>BF.ta (BF.fm k) x):=by
    exact MT ha (by rw[aF];exact hlen) fun i v e=>by
     obtain⟨r,u,e1,e2,x⟩:=hv i v e;exact⟨r,_,e1,by rw[aT,e2];rfl,x⟩
   refine⟨⟨_,mV.seq o1,by simp⟩,?_⟩;refine gj rfl (rX) ?p2 ⟨mV,?r1⟩
   case p2=>exact⟨hk,hm,fun u hu=>by
    obtain⟨x,XM,rfl⟩:=ju.mp hu;exact GY (ir hk (hx x XM)),by rw[aF];omega⟩
   case r1 =>
    refine bD q ?_;unfold BF.Ff;rw[ao e4,js];congr 2;exact xE fun x XM=>BF.cX _ _ (hx x XM)
 case f1 =>
  have n8:=ym o;refine n9 l.length (fun i σ H'=>(∃t4 t6 t7,σ=[some (.int k),some (.int o),some (.int m),some (.ref a),t4,some (.ref a3),t6,t7])∧aI H H'∧H' a3=some (.lst (List.map (fun (c:Nat)=>V.int c) (BF.fZ ((BF.fm k).add (BF.md m)) (BF.fN o) (l.take i))))) ?_ ?_ ?_
  ·refine⟨⟨_,_,_,rfl⟩,s3,b4 x3 ?_⟩;rw[DL,BF.Fe,List.map_replicate];rfl
  ·rintro i σ H' hi ⟨⟨t4,t6,t7,rfl⟩,sm,zB⟩;have xa:l[i]?=some (l[i]'hi):=bI hi;refine⟨⟨_,_,sm.seq o1,by rw[aT,xa];rfl⟩,?_⟩;rintro v0 H2 ⟨T,v,rfl,hT,rfl,Qo⟩;have ex:=Qo _ (sm.seq o1);rw[aT,xa] at ex;have ba:=hx _ (fS hi);generalize l[i]'hi=c at *;obtain rfl:V.int (c:Int)=v:=bM ex;have hLn:(BF.fZ ((BF.fm k).add (BF.md m)) (BF.fN o) (l.take i)).length=BF.fN o:=BF.iU _ _ _;have hL:0<(BF.fZ ((BF.fm k).add (BF.md m)) (BF.fN o) (l.take i)).length:=by omega
   obtain⟨vv,hv,sn⟩:=CZ ((BF.fm k).add (BF.md m)) (n:=BF.fN o) Kf xa;have bv:vv<2*(BF.fm k).sign:=xf (fun s x=>BF.ez (BF.dk k) (BF.fL _ (BF.dk k) _ _ _)) (BF.dk k) _ (uk hv);refine⟨_,_,rfl,j3.of aL,rfl,_,_,rfl,_,_,rfl,rfl,br rfl rfl rfl (.inl (bU.of (((ai hT) _ _ (zB))))) (bJ rfl rfl ?c1 (ax rfl rfl rfl rfl (il rfl rfl (bU.of (((ai hT) _ _ (zB)))) (JG hL hv) (bg rfl (gJ rfl ?p4 (aR rfl rfl (il rfl rfl (((ai hT) _ _ (zB))) (CW hL) ?e2)))))))⟩
   case c1=>show (0:Int)<((_:Nat):Int);rw[aF];omega
   case p4=>exact⟨hm,ir hk bv,ir hk ba⟩
   case e2=>exact⟨⟨_,_,_,rfl⟩,fun b u e=>by rw[b7 (da e n3)];exact ai hT _ _ (sm _ _ e),by rw[sn,List.map_set];exact aL⟩
  ·rintro σ H' ⟨⟨t4,t6,t7,rfl⟩,sm,zB⟩;refine⟨⟨_,sm.seq o1,by simp⟩,?_⟩;refine aW rfl rfl rfl (gj rfl (bU.of (zB)) ?p5 ⟨sm,?r2⟩)
   case p5 =>
    refine⟨hm,hk,xf (fun s x=>BF.ez (BF.dk k) (BF.fL _ (BF.dk k) _ _ _)) (BF.dk k),?_⟩;rw[BF.iU];exact C0 o
   case r2 =>
    refine bD q ?_;unfold BF.Ff BF.pj;rw[ag (df h1),BF.iU,tO]
end
theorem UN {l:List Nat} {i v:Nat} (h:l[i]?=some v):lB (List.map (fun (c:Nat)=>V.int c) l) ((i:Nat):Int)=some (.int v):=by
 have hi:=(g9.mp h).1;unfold lB xK;rw[aF,ao Kf,ao Kf,yE,aN,aT,h];rfl
section
variable {P:Program} {w:World} {K:aP} {mg:Str→Option Value} {base:Heap} {C C2 C3:Addr}
def ub (K:aP) (C:Addr):Sp:=fun vs H Q _=>∃k o m a b l r,vs=[.int k,.int o,.int m,.ref a,.ref b]∧(bU K H a (List.map (fun (c:Nat)=>V.int c) l))∧(bU K H b (List.map (fun (c:Nat)=>V.int c) r))∧(VM m∧VK k∧(0≤o∧o≤4)∧(∀x∈l,x<2*(BF.fm k).sign)∧(∀x∈r,x<2*(BF.fm k).sign)∧l.length≤64∧r.length=l.length)∧Q (.int (BF.Fg (BF.fm k) (BF.md m) o (l.zip r):Nat)) H
theorem ej:aD ["kind","order","mode","numbers","others","a","b","lanes","turn","lane"] ["kind","order","mode","numbers","others"] (ay (top 109)):=bz
theorem vn (ak:Ev K mg C C2 C3):cw P w K mg base "sum_of_products" ["kind","order","mode","numbers","others"] 8 (ub K C):=by
 have T:=ak.T;refine bc (ak.df 72) ej Xa (Xc fun f bw A outer s H Q E hr k o m a b l r h=>?_);obtain⟨o1,o2,⟨hm,hk,ho,hx,hy,hl,hr2⟩,q⟩:=h;refine⟨_,ah (aS (b8 bp (pv 1) (aG T.wJ rfl)) (aj (aq (pf (xc ak) hr (aa (pv 0) (aa (pv 2) (aa (uM rfl ej.nd (Mp rfl T.Q5 (aa (pv 3) (aa (pv 4) (ae)))) (own:=[("a",5),("b",6)]) (jj rfl) (fun _ _ _ _ _=>JC (K:=K) (n:=2) rfl rfl (iR (eK (i:=5) ej.nd rfl (Or.inl rfl)) (iR (eK (i:=6) ej.nd rfl (Or.inl rfl)) (rd)))) (fun _ _ _ _ _=>kf) (fun _ _ _ _ _=>pf (pG ak) hr (aa (pv 0) (aa (pv 5) (aa (pv 6) (ae)))))) (ae))))))) (aB)) (ah (sv 7 ej.nd (pf (rY ak) hr (aa (pv 1) (ae)))) (ah (nJ PassesOwn.never rfl (Bg rfl T.qr (aa (pv 3) (ae))) (Aj rfl (iR (eK (i:=8) ej.nd rfl (Or.inl rfl)) (iR (eK (i:=5) ej.nd rfl (Or.inl rfl)) (rd)))) (ah (sv 9 ej.nd (aH jE (pv 8) (bW cx rfl T.iq PySem.boot_len (aa (pv 7) (ae))))) (aj (Md (pf (rW ak) hr (aa (pv 0) (aa (pv 2) (aa (pv 5) (aa (ek aZ (pv 4) (pv 8)) (aa (ek aZ (pv 7) (pv 9)) (ae))))))) (Mb (pv 7) (pv 9) set_list))))) (aj (aq (pf (oa ak) hr (aa (pv 0) (aa (pv 2) (aa (pv 7) (ae))))))))),aE rfl rfl rfl rfl (aK (fun h1=>ax rfl rfl rfl rfl (gj rfl (o1) (o2) (fun D1 yl=>?k1))) (fun h1=>cP rfl rfl ?p3 (fun a3 H3 n3 s3 x3=>bP rfl rfl ((s3).seq (o1)) ?f1)))⟩
 case p3=>have:=df h1;omega
 case k1 =>
  have e4:=dt h1;refine ma l.length (by unfold sizeLine;omega) yl (fun i v Hx=>∃p u1 u2,v=.ref p∧l[i]?=some u1∧r[i]?=some u2∧eP C Hx p (BF.gr (BF.ta (BF.fm k) (u1:Nat)) (BF.ta (BF.fm k) (u2:Nat)))) (fun i v Hx Hy XJ ⟨p,u1,u2,e,g,g2,x⟩=>⟨p,u1,u2,e,g,g2,x.same XJ⟩) (fun i v Hx acc pF hD ⟨p,u1,u2,e,g,g2,x⟩=>⟨p,u1,u2,e,g,g2,CY hD x⟩) ?_ ?_
  ·intro i Hi Kx hi si hK;have xa:l[i]?=some (l[i]'hi):=bI hi;have xb:r[i]?=some (r[i]'Kf):=bI Kf;refine⟨⟨_,_,_,_,si.seq o1,si.seq o2,by rw[aT,xa];rfl,by rw[aT,xb];rfl⟩,?_⟩;rintro v H2 ⟨T,v1,v2,rfl,hT,rfl,ha,hb⟩;have ex:=ha _ (si.seq o1);have ey:=hb _ (si.seq o2);rw[aT,xa] at ex;rw[aT,xb] at ey;have ba:=hx _ (fS hi);have bb:=hy _ (fS (show i<r.length by omega));generalize l[i]'hi=c at *;generalize r[i]'Kf=c2 at *;obtain rfl:V.int (c:Int)=v1:=bM ex;obtain rfl:V.int (c2:Int)=v2:=bM ey;refine⟨_,_,rfl,j3.of aL,rfl,_,_,rfl,_,_,rfl,rfl,⟨rfl,aW rfl rfl rfl (eZ rfl ?p1 (fun a2 H2 s2 x2=>?e1))⟩⟩
   case p1=>exact⟨ir hk ba,ir hk bb⟩
   case e1=>exact hK _ _ ((ai hT).trans s2) ⟨a2,c,c2,rfl,xa,xb,x2⟩
  ·intro H2 acc mV ha hlen hv;have rX:UM K C H2 D1 ((l.zip r).map fun (p:Nat×Nat)=>BF.gr (BF.ta (BF.fm k) p.1) (BF.ta (BF.fm k) p.2)):=by
    exact MT ha (by rw[aF,DR];omega) fun i v e=>by
     obtain⟨p,u1,u2,e1,e2,e3,x⟩:=hv i v e;exact⟨p,_,e1,by rw[aT,JZ (z:=(u1,u2)) |>.mpr ⟨e2,e3⟩];rfl,x⟩
   refine⟨⟨_,_,mV.seq o1,mV.seq o2,.inl (by simp)⟩,?_⟩;have hz:∀p∈l.zip r,p.1<2*(BF.fm k).sign∧p.2<2*(BF.fm k).sign:=fun p hp=>⟨hx _ (tV hp).1,hy _ (tV hp).2⟩;refine gj rfl (rX) ?p2 ⟨mV,?r1⟩
   case p2=>exact⟨hk,hm,fun u hu=>by
    obtain⟨p,Gm,rfl⟩:=ju.mp hu;exact w9 (ir hk (hz p Gm).1) (ir hk (hz p Gm).2),by rw[aF,DR];omega⟩
   case r1 =>
    refine bD q ?_;unfold BF.Fg;rw[ao e4,js];congr 2;refine xE fun p Gm=>?_;show (BF.gr _ _).kind=_;rw[BF.nQ,BF.cX _ _ (hz p Gm).1,BF.cX _ _ (hz p Gm).2]
 case f1 =>
  have n8:=ym o;refine n9 l.length (fun i σ H'=>(∃t5 t6 t8 t9,σ=[some (.int k),some (.int o),some (.int m),some (.ref a),some (.ref b),t5,t6,some (.ref a3),t8,t9])∧aI H H'∧H' a3=some (.lst (List.map (fun (c:Nat)=>V.int c) (BF.fZ (fun (s:Nat) (p:Nat×Nat)=>(BF.fm k).fma (BF.md m) p.1 p.2 s) (BF.fN o) ((l.zip r).take i))))) ?_ ?_ ?_
  ·refine⟨⟨_,_,_,_,rfl⟩,s3,b4 x3 ?_⟩;rw[DL,BF.Fe,List.map_replicate];rfl
  ·rintro i σ H' hi ⟨⟨t5,t6,t8,t9,rfl⟩,sm,zB⟩;have xa:l[i]?=some (l[i]'hi):=bI hi;have xb:r[i]?=some (r[i]'Kf):=bI Kf;refine⟨⟨_,_,sm.seq o1,by rw[aT,xa];rfl⟩,?_⟩;rintro v0 H2 ⟨T,v,rfl,hT,rfl,Qo⟩;have ex:=Qo _ (sm.seq o1);rw[aT,xa] at ex;have ba:=hx _ (fS hi);have bb:=hy _ (fS (show i<r.length by omega));generalize l[i]'hi=c at *;generalize r[i]'Kf=c2 at *;obtain rfl:V.int (c:Int)=v:=bM ex;have hLn:(BF.fZ (fun (s:Nat) (p:Nat×Nat)=>(BF.fm k).fma (BF.md m) p.1 p.2 s) (BF.fN o) ((l.zip r).take i)).length=BF.fN o:=BF.iU _ _ _;have hL:0<(BF.fZ (fun (s:Nat) (p:Nat×Nat)=>(BF.fm k).fma (BF.md m) p.1 p.2 s) (BF.fN o) ((l.zip r).take i)).length:=by omega
   obtain⟨vv,hv,sn⟩:=CZ (fun (s:Nat) (p:Nat×Nat)=>(BF.fm k).fma (BF.md m) p.1 p.2 s) (n:=BF.fN o) Kf (JZ (z:=(c,c2)) |>.mpr ⟨xa,xb⟩);have bv:vv<2*(BF.fm k).sign:=xf (fun s x=>BF.ez (BF.dk k) (BF.fL _ (BF.dk k) _ _ _)) (BF.dk k) _ (uk hv);refine⟨_,_,rfl,j3.of aL,rfl,_,_,rfl,_,_,rfl,rfl,br rfl rfl rfl (.inl (bU.of (((ai hT) _ _ (zB))))) (bJ rfl rfl ?c1 (ax rfl rfl rfl rfl (bT rfl rfl rfl (((ai hT)).seq ((sm).seq (o2))) (UN xb) (aR rfl rfl (il rfl rfl (bU.of (((ai hT) _ _ (zB)))) (JG hL hv) (jY rfl ?p4 (aR rfl rfl (il rfl rfl (((ai hT) _ _ (zB))) (CW hL) ?e2))))))))⟩
   case c1=>show (0:Int)<((_:Nat):Int);rw[aF];omega
   case p4=>exact⟨hm,ir hk ba,ir hk bb,ir hk bv⟩
   case e2=>exact⟨⟨_,_,_,_,rfl⟩,fun b u e=>by rw[b7 (da e n3)];exact ai hT _ _ (sm _ _ e),by rw[sn,List.map_set];exact aL⟩
  ·rintro σ H' ⟨⟨t5,t6,t8,t9,rfl⟩,sm,zB⟩;refine⟨⟨_,sm.seq o1,by simp⟩,?_⟩;refine aW rfl rfl rfl (gj rfl (bU.of (zB)) ?p5 ⟨sm,?r2⟩)
   case p5 =>
    refine⟨hm,hk,xf (fun s x=>BF.ez (BF.dk k) (BF.fL _ (BF.dk k) _ _ _)) (BF.dk k),?_⟩;rw[BF.iU];exact C0 o
   case r2 =>
    refine bD q ?_;have hz:(l.zip r).length=l.length:=by rw[DR];omega
    unfold BF.Fg BF.pj;rw[ag (df h1),BF.iU,←hz,tO]
end
theorem UO {n:Nat} (h:n≤2000):Sm 8000 ((10:Int)^n):=by
 unfold Sm;have e:((10:Int)^n).natAbs=10^n:=by rw[JV];rfl
 rw[e];have a:(10:Nat)^n≤10^2000:=fb J9 h;have b:(10:Nat)^2000≤16^1900*16^100:=by rw[←eC];exact Nat.pow_le_pow_left J9 2000
 have c:(16:Nat)^1900*16^100=2^8000:=by rw[←eC,show (16:Nat)=2^4 from rfl,←DN]
 have d:(10:Nat)^2000<16^1900*16^100:=by
  rw[←eC];exact Nat.pow_lt_pow_left J9 J9
 omega
theorem UQ {z:Int} (h:Sm 9000 z):Sm 60000 (2*z+1):=by
 have a:Sm 9064 (2*z):=Sm.mul (a:=64) (show Sm 64 2 by unfold Sm;decide) h |>.mono J9;exact(Sm.add a (show Sm 9064 1 from b6 J9 J9)).mono J9
theorem RL {Q:L2.VK} {H:Hp} {a b:V} (q:Q b H) (e:a=b):Q a H:=by rw[e];exact q
def MU:Option Int→V
 | some z=>.int z
 | none=>.fU
section
variable {P:Program} {w:World} {K:aP} {mg:Str→Option Value} {base:Heap} {C C2 C3:Addr}
def yo (K:aP) (C:Addr):Sp:=fun vs H Q _=>∃e,vs=[.int e]∧(0≤e∧e≤1500)∧Q (.int (10^e.toNat)) H
theorem jo:aD ["exponent","power","turn"] ["exponent"] (ay (top 135)):=bz
theorem qK (ak:Ev K mg C C2 C3):cw P w K mg base "power_of_ten" ["exponent"] 1 (yo K C):=by
 have T:=ak.T;refine bc (ak.df 87) jo tW (tX fun f bw A outer s H Q E hr e h=>?_);obtain⟨hp,q⟩:=h;refine⟨_,ah (sv 1 jo.nd (al)) (ah (nJ PassesOwn.never rfl (uB rfl T.wK (aa (pv 0) (ae))) (eK (i:=2) jo.nd rfl (Or.inl rfl)) (aj (sv 1 jo.nd (aH cK (al) (pv 1))))) (aj (aq (pv 1)))),cP rfl rfl ?c1 ⟨?c2,?f1⟩⟩
 case c1=>omega
 case c2=>omega
 case f1 =>
  refine n9 e.toNat (fun i σ H'=>(∃t,σ=[some (.int e),some (.int (10^i)),t])∧H'=H) ⟨⟨_,rfl⟩,rfl⟩ ?_ ?_
  ·rintro i σ H' hi ⟨⟨t,rfl⟩,rfl⟩;refine⟨hi,?_⟩;rintro x H2 ⟨rfl,rfl⟩;refine eJ rfl rfl rfl ?c3 ?e1
   case c3=>exact⟨b6 J9 J9,(UO Kf).mono J9⟩
   case e1=>exact⟨⟨_,by rw[gy,iJ];rfl⟩,rfl⟩
  ·rintro σ H' ⟨⟨t,rfl⟩,rfl⟩;refine⟨bB _,?_⟩;refine bg rfl ⟨aI.refl _,?r1⟩
   case r1=>exact q
def LZ (K:aP) (C:Addr):Sp:=fun vs H Q _=>∃z mid d,vs=[.int z,.int mid,.int d]∧(Sm 9000 z∧Sm 9000 mid∧Sm 9000 d)∧Q (.int (BF.xV z mid d)) H
theorem C4:aD ["below","middle","d","gap"] ["below","middle","d"] (ay (top 128)):=bz
theorem OR (ak:Ev K mg C C2 C3):cw P w K mg base "nearer" ["below","middle","d"] 1 (LZ K C):=by
 have T:=ak.T;refine bc (ak.df 80) C4 lW (lX fun f bw A outer s H Q E hr z mid d h=>?_);obtain⟨⟨h1s,h2s,h3s⟩,q⟩:=h;refine⟨_,ah (sv 3 C4.nd (aH dm (aH cK (al) (pv 1)) (aH cK (aH bX (aH cK (al) (pv 0)) (al)) (pv 2)))) (ah (aS (b8 bp (pv 3) (al)) (aj (aq (aH bX (pv 0) (aH jE (pv 0) (al))))) (aB)) (aj (aq (cY (b9 (b8 jv (pv 3) (al)) (pv 0) (aH bX (pv 0) (al))))))),eJ rfl rfl rfl ?c1 (eJ rfl rfl rfl ?c2 (ck rfl rfl rfl (bJ rfl rfl ?c3 (bG rfl rfl (aE rfl rfl rfl rfl (aK (fun h1=>aR rfl rfl (bJ rfl rfl (show (0:Int)<2 by decide) (bG rfl rfl ⟨aI.refl _,?r1⟩))) (fun h1=>⟨.int (if 2*mid-(2*z+1)*d<0 then z else z+1),aE rfl rfl rfl rfl (aK (fun h2=>bg rfl ?d1) (fun h2=>bP rfl rfl rfl ?d2)),⟨aI.refl _,?r2⟩⟩)))))))⟩
 case c1=>exact⟨b6 J9 J9,h2s.mono J9⟩
 case c2=>exact⟨b6 J9 J9,h1s.mono J9⟩
 case c3=>exact⟨UQ h1s,h3s.mono J9⟩
 case r1=>exact bD q (by unfold BF.xV;rw[ao (dt h1)])
 case d1=>exact⟨by rw[ao (dt h2)],rfl⟩
 case d2=>exact⟨by rw[ag (df h2)],rfl⟩
 case r2=>exact bD q (by unfold BF.xV;rw[ag (df h1)])
def vo (K:aP) (C:Addr):Sp:=fun vs H Q _=>∃lo mid hi d ev,vs=[.int lo,.int mid,.int hi,.int d,.bl ev]∧(0<d∧0≤mid∧Sm 8000 d∧Sm 8000 mid)∧Q (MU (BF.between lo mid hi d ev)) H
theorem gC:aD ["low","middle","high","d","even","below","above","below_fits","above_fits"] ["low","middle","high","d","even"] (ay (top 127)):=bz
theorem oe (ak:Ev K mg C C2 C3):cw P w K mg base "digits_between" ["low","middle","high","d","even"] 2 (vo K C):=by
 have T:=ak.T;refine bc (ak.df 79) gC B0 (B3 fun f bw A outer s H Q E hr lo mid hi d ev h=>?_);obtain⟨⟨d0,m0,sd,sm⟩,q⟩:=h;refine⟨_,ah (sv 5 gC.nd (aH ip (pv 1) (pv 3))) (ah (sv 6 gC.nd (aH bX (pv 5) (al))) (ah (sv 7 gC.nd (cY (AR (iz eX (aH cK (pv 5) (pv 3)) (pv 0)) (jh (cY (lN (pv 4) (jh (iz bp (aH cK (pv 5) (pv 3)) (pv 0))))))))) (ah (sv 8 gC.nd (cY (AR (iz jv (aH cK (pv 6) (pv 3)) (pv 2)) (jh (cY (lN (pv 4) (jh (iz bp (aH cK (pv 6) (pv 3)) (pv 2))))))))) (ah (aS (cy (PW.pt (kc (aQ (pv 7)) (ka (aQ (pv 8)))))) (aj (aq (pf (OR ak) hr (aa (pv 5) (aa (pv 1) (aa (pv 3) (ae))))))) (aB)) (ah (aS (aQ (pv 7)) (aj (aq (pv 5))) (aB)) (aj (aq (cY (b9 (aQ (pv 8)) (pv 6) (Ma)))))))))),aR rfl rfl (bJ rfl rfl ?c1 (bP rfl rfl rfl ⟨.bl (decide (lo<mid/d*d)||(ev&&decide (mid/d*d=lo))),aR rfl rfl (bJ rfl rfl ?c2 (aE rfl rfl rfl rfl (aK (fun h2=>?d4) (fun h2=>⟨.bl (ev&&decide (mid/d*d=lo)),aR rfl rfl (aK (fun h1=>aR rfl rfl (bJ rfl rfl ?c3 (bP rfl rfl rfl ?d1))) (fun h1=>?d2)),?d3⟩)))),⟨.bl (decide ((mid/d+1)*d<hi)||(ev&&decide ((mid/d+1)*d=hi))),aR rfl rfl (bJ rfl rfl ?c4 (aE rfl rfl rfl rfl (aK (fun h4=>?d8) (fun h4=>⟨.bl (ev&&decide ((mid/d+1)*d=hi)),aR rfl rfl (aK (fun h3=>aR rfl rfl (bJ rfl rfl ?c5 (bP rfl rfl rfl ?d5))) (fun h3=>?d6)),?d7⟩)))),⟨((decide (lo<mid/d*d)||(ev&&decide (mid/d*d=lo)))&&(decide ((mid/d+1)*d<hi)||(ev&&decide ((mid/d+1)*d=hi)))),aR rfl rfl (aK (fun h6=>aR rfl rfl ?d9) (fun h6=>?IV)),aK (fun h5=>aW rfl rfl rfl (eZ rfl ?p1 ⟨aI.refl _,?r1⟩)) (fun h5=>aR rfl rfl (aK (fun h7=>bg rfl ⟨aI.refl _,?r2⟩) (fun h7=>⟨(if (decide ((mid/d+1)*d<hi)||(ev&&decide ((mid/d+1)*d=hi)))=true then V.int (mid/d+1) else V.fU),aR rfl rfl (aK (fun h8=>bg rfl ?RC) (fun h8=>?XG)),⟨aI.refl _,?r3⟩⟩)))⟩⟩⟩))⟩
 all_goals have q0:0≤mid/d:=f7 m0 (bo d0)
 all_goals have q1:mid/d≤mid:=mh d m0
 all_goals have sq:Sm 8000 (mid/d):=sm.le Kf
 all_goals have sq1:Sm 9000 (mid/d+1):=(Sm.add sq (show Sm 8000 1 from b6 J9 J9)).mono J9
 case c1=>exact⟨d0,sd.mono J9⟩
 case c2=>exact⟨sq.mono J9,sd.mono J9⟩
 case c3=>exact⟨sq.mono J9,sd.mono J9⟩
 case c4=>exact⟨sq1.mono J9,sd.mono J9⟩
 case c5=>exact⟨sq1.mono J9,sd.mono J9⟩
 case d4=>exact⟨by rw[h2];rfl,rfl⟩
 case d1=>exact⟨by rw[h1];rfl,rfl⟩
 case d2=>exact⟨by rw[aV _ |>.mp h1];rfl,rfl⟩
 case d3=>exact⟨by rw[aV _ |>.mp h2];rfl,rfl⟩
 case d8=>exact⟨by rw[h4];rfl,rfl⟩
 case d5=>exact⟨by rw[h3];rfl,rfl⟩
 case d6=>exact⟨by rw[aV _ |>.mp h3];rfl,rfl⟩
 case d7=>exact⟨by rw[aV _ |>.mp h4];rfl,rfl⟩
 case d9=>exact⟨by rw[h6];rfl,rfl⟩
 case IV=>exact⟨by rw[aV _ |>.mp h6];rfl,rfl⟩
 case p1=>exact⟨sq.mono J9,sm.mono J9,sd.mono J9⟩
 case r1=>exact RL q (by unfold BF.between;rw[ao h5];rfl)
 case r2=>exact RL q (by unfold BF.between;rw[ag h5,ao h7];rfl)
 case RC=>exact⟨by rw[ao h8],rfl⟩
 case XG=>exact⟨by rw[ag h8],rfl⟩
 case r3 =>
  refine RL q ?_;unfold BF.between;rw[ag h5,ag h7];split<;>rfl
end
abbrev dZ (b:Lw.Bytes):List V:=List.map (fun (c:UInt8)=>V.int (c.toNat:Nat)) b
theorem OS {b:Lw.Bytes} {i:Nat} {c:UInt8} (h:b[i]?=some c):Lw.numberOf (b.take (i+1))=10*Lw.numberOf (b.take i)+(c.toNat-48):=by
 unfold Lw.numberOf;rw[sQ,h,xP,xC];rfl
theorem MV:∀(b:Lw.Bytes) (n:Nat),b.foldl (fun (n:Nat) (c:UInt8)=>10*n+(c.toNat-48)) n<(n+1)*256^b.length
 | [],n=>by simp
 | c::r,n=>by
  have ih:=MV r (10*n+(c.toNat-48));have hc:c.toNat<256:=c.toNat_lt;have:10*n+(c.toNat-48)+1≤(n+1)*256:=by omega
  have k:=vW (256^r.length) this;rw[we,←Nat.pow_succ'] at k;exact b5 ih k
theorem xh {b:Lw.Bytes} (h:b.length≤120):Sm 1000 (Lw.numberOf b:Nat):=by
 have a:=MV b 0;have c:(256:Nat)^b.length≤256^120:=fb J9 h;have d:(256:Nat)^120=2^960:=by rw[show (256:Nat)=2^8 from rfl,←DN]
 have e:(2:Nat)^960≤2^1000:=fb J9 J9;unfold Sm;rw[JY];unfold Lw.numberOf;omega
section
variable {P:Program} {w:World} {K:aP} {mg:Str→Option Value} {base:Heap} {C C2 C3:Addr}
def vq (K:aP) (C:Addr):Sp:=fun vs H Q _=>∃a b,vs=[.ref a]∧(bU K H a (dZ b))∧((∀c∈b,48≤c.toNat)∧b.length≤120)∧Q (.int (Lw.numberOf b:Nat)) H
theorem iG:aD ["digits","n","digit"] ["digits"] (ay (top 134)):=bz
theorem og (ak:Ev K mg C C2 C3):cw P w K mg base "counted_digits" ["digits"] 1 (vq K C):=by
 have T:=ak.T;refine bc (ak.df 86) iG lp (lr fun f bw A outer s H Q E hr a b h=>?_);obtain⟨o1,⟨hb,hl⟩,q⟩:=h;refine⟨_,ah (sv 1 iG.nd (al)) (ah (nJ PassesOwn.never rfl (oO (pv 0)) (eK (i:=2) iG.nd rfl (Or.inl rfl)) (aj (sv 1 iG.nd (aH dm (aH bX (aH cK (al) (pv 1)) (pv 2)) (aG T.ze rfl))))) (aj (aq (pv 1)))),cP rfl rfl ⟨_,(o1)⟩ ?f1⟩
 case f1 =>
  refine n9 b.length (fun i σ H'=>(∃t,σ=[some (.ref a),some (.int (Lw.numberOf (b.take i):Nat)),t])∧H'=H) ⟨⟨_,rfl⟩,rfl⟩ ?_ ?_
  ·rintro i σ H' hi ⟨⟨t,rfl⟩,rfl⟩;have xa:b[i]?=some (b[i]'hi):=bI hi;refine⟨⟨_,_,o1,by rw[aT,xa];rfl⟩,?_⟩;rintro v H2 ⟨rfl,hv⟩;have ex:=hv _ o1;rw[aT,xa] at ex;have hc:=hb _ (fS hi);generalize b[i]'hi=c at *;obtain rfl:V.int ((c.toNat:Nat):Int)=v:=bM ex;refine eJ rfl rfl rfl ?c1 (bP rfl rfl rfl (bG rfl rfl ?e1))
   case c1=>exact⟨b6 J9 J9,(xh (by rw[fM];omega)).mono J9⟩
   case e1 =>
    have e:((Lw.numberOf (b.take (i+1)):Nat):Int)=10*(Lw.numberOf (b.take i):Nat)+(c.toNat:Nat)-48:=by rw[OS xa];omega
    exact⟨⟨_,by rw[e];rfl⟩,rfl⟩
  ·rintro σ H' ⟨⟨t,rfl⟩,rfl⟩;refine⟨⟨_,o1,by simp⟩,?_⟩;refine bg rfl ⟨aI.refl _,?r1⟩
   case r1=>exact bD q (by rw[tO])
end
theorem RM {b:Lw.Bytes} {e:Nat} (h:decide ((e:Int)<((dZ b).length:Int))=true):lB (dZ b) (e:Int)=some (.int ((b.getD e 0).toNat:Nat)):=by
 have h':=eU h;rw[aF] at h';have hi:e<b.length:=by omega
 unfold lB xK;rw[aF,ao Kf,ao Kf,yE,aN,aT,bI hi];simp[List.getD,bI hi]
theorem RN {b:Lw.Bytes} {e:Nat} (h:decide ((e:Int)<((dZ b).length:Int))=true):e<b.length:=by
 have h':=eU h;rw[aF] at h';omega
def ly (b:Lw.Bytes) (e:Nat):Nat:=e+((b.drop e).takeWhile Lw.isDigit).length
theorem RO {b:Lw.Bytes} {e:Nat} (h:e<b.length) (d:Lw.isDigit (b.getD e 0)=true):ly b (e+1)=ly b e:=by
 unfold ly;have g:b.getD e 0=b[e]:=by simp[List.getD,bI h]
 rw[IP h,sO,←g,d,ao rfl,cN];omega
theorem L0 {b:Lw.Bytes} {e:Nat} (h:¬(e<b.length∧Lw.isDigit (b.getD e 0)=true)):ly b e=e:=by
 unfold ly;by_cases c:e<b.length
 ·have g:b.getD e 0=b[e]:=by simp[List.getD,bI c]
  rw[IP c,sO,←g,ag fun z=>h ⟨c,z⟩];rfl
 ·rw[xG Kf];rfl
section
variable {P:Program} {w:World} {K:aP} {mg:Str→Option Value} {base:Heap} {C C2 C3:Addr}
def xj (K:aP) (C:Addr):Sp:=fun vs H Q _=>∃a b s,vs=[.ref a,.int s]∧(bU K H a (dZ b))∧(0≤s)∧Q (.int (ly b s.toNat:Nat)) H
theorem kC:aD ["text","start","end"] ["text","start"] (ay (top 133)):=bz
theorem kW (ak:Ev K mg C C2 C3):cw P w K mg base "end_of_digits" ["text","start"] 1 (xj K C):=by
 have T:=ak.T;refine bc (ak.df 85) kC lW (lX fun f bw A outer s H Q E hr a b s h=>?_);obtain⟨o1,hp,q⟩:=h;obtain⟨S,rfl⟩:=aA hp;refine⟨_,ah (sv 2 kC.nd (pv 1)) (ah (jO PassesOwn.never (cy (PW.pt (kc (b8 jv (pv 2) (bW cx rfl T.iq PySem.boot_len (aa (pv 0) (ae)))) (ka (Ni AX AX (aG T.ze rfl) (ek aZ (pv 0) (pv 2)) (aG T.Jc rfl)))))) (aj (sv 2 kC.nd (aH bX (pv 2) (al))))) (aj (aq (pv 2)))),bg rfl ?w1⟩
 case w1 =>
  refine gU (fun (e:Nat) σ H'=>σ=[some (.ref a),some (.int S),some (.int e)]∧H'=H∧ly b e=ly b S) (fun e=>b.length-e) S ⟨rfl,rfl,rfl⟩ ?_;rintro e σ H' ⟨rfl,rfl,he⟩;refine⟨(decide (e<b.length)&&Lw.isDigit (b.getD e 0)),br rfl rfl rfl (.inl (o1)) (ck rfl rfl rfl (aK (fun h2=>aR rfl rfl (il rfl rfl (o1) (RM h2) (ck rfl rfl rfl (aK (fun h3=>ck rfl rfl rfl ?d1) (fun h3=>bg rfl ?d2))))) (fun h2=>?d3))),aK (fun h1=>bP rfl rfl rfl ?e1) (fun h1=>bg rfl ⟨aI.refl _,?r1⟩)⟩
  case d1 =>
   have e2:=RN h2;exact⟨by rw[du e2,fJ];unfold Lw.isDigit;rw[du (show 48≤(b.getD e 0).toNat by have:=dt h3;omega),fJ];exact tM.mpr Kf,rfl⟩
  case d2 =>
   have e2:=RN h2;exact⟨by rw[du e2,fJ];unfold Lw.isDigit;rw[bS (show ¬48≤(b.getD e 0).toNat by have:=df h3;omega),ib],rfl⟩
  case d3 =>
   have e2:¬e<b.length:=fun z=>df h2 (by rw[aF];omega);exact⟨by rw[bS e2,ib],rfl⟩
  case e1 =>
   have hh:=j6.mp h1;have e2:=dt hh.1;exact⟨e+1,⟨rfl,rfl,(RO e2 hh.2).trans he⟩,Kf⟩
  case r1 =>
   have hh:¬(e<b.length∧Lw.isDigit (b.getD e 0)=true):=fun ⟨x,y⟩=>h1 (j6.mpr ⟨du x,y⟩);exact bD q (by rw[aN,←he,L0 hh])
def JH (K:aP) (C:Addr):Sp:=fun vs H Q _=>∃x,vs=[.str x]∧(x.cps.size≤1000)∧∀a H',aI H H'→H' a=some (.lst (x.cps.toList.map fun (c:Nat)=>V.int c))→Q (.ref a) H'
theorem sj:aD ["text","letter"] ["text"] (ay (top 123)):=bz
theorem jM (ak:Ev K mg C C2 C3):cw P w K mg base "spelled" ["text"] 1 (JH K C):=by
 have T:=ak.T;refine cQ (ak.df 75) sj tW (tX fun f bw A outer s H Q E hr x h=>?_);obtain⟨hp,q⟩:=h;refine⟨_,aj (aq (uM rfl sj.nd (Td (pv 0)) (own:=[("letter",1)]) (jj rfl) (fun _ _ _ _ _=>eK (i:=1) sj.nd rfl (Or.inl rfl)) (fun _ _ _ _ _=>kf) (fun _ _ _ _ _=>bW Nj rfl T.Xu boot_ord (aa (pv 1) (ae))))),aR rfl rfl (fun D1 yl=>?k1)⟩
 case k1 =>
  refine ma x.cps.size (by unfold sizeLine;omega) yl (fun i v _=>∃c:Nat,x.cps[i]?=some c∧v=.int (c:Nat)) (fun _ _ _ _ _ e=>e) (fun _ _ _ _ _ _ e=>e) ?_ ?_
  ·intro i H' Kx hi si hK;refine⟨hi,?_⟩;rintro x1 H2 ⟨rfl,c,hc,rfl⟩;refine⟨rfl,cP rfl rfl ?c1 ?e1⟩
   case c1=>rfl
   case e1=>exact hK _ _ (aI.refl _) ⟨c,hc,rfl⟩
  ·intro H2 acc mV ha hl hv;have e:acc=x.cps.toList.map fun (c:Nat)=>V.int c:=by
    refine j4 fun i=>?_;by_cases c:i<acc.length
    ·obtain⟨d,e1,e2⟩:=hv i _ (bI c);rw[bI c,e2,aT,Array.getElem?_toList,e1];rfl
    ·rw[eO Kf,eO (by simp;omega)]
   subst e;have rX:=ha;refine⟨bB _,?_⟩;refine q _ _ (mV) (b4 (rX) ?r1)
   case r1=>rfl
end
theorem C5:∀d:Nat,d<10→(Nat.digitChar d).toNat=48+d:=by decide
theorem xk:∀(f n:Nat) (ds:List Char),(Nat.toDigitsCore 10 f n ds).map Char.toNat=(Lw.digitsOn f n).map (fun (c:UInt8)=>c.toNat)++ds.map Char.toNat
 | 0,n,ds=>by simp[Nat.toDigitsCore,Lw.digitsOn]
 | f+1,n,ds=>by
  unfold Nat.toDigitsCore Lw.digitsOn;have hd:=C5 (n%10) (fG _ J9);by_cases c:n<10
  ·have e:n/10=0:=by omega
   have e2:n%10=n:=by omega
   rw[ao c,ao e,e2];rw[e2] at hd;have b:(UInt8.ofNat (48+n)).toNat=48+n:=by rw[DM];omega
   simp[hd,b];omega
  ·have e:¬n/10=0:=by omega
   have b:(UInt8.ofNat (48+n%10)).toNat=48+n%10:=by rw[DM];omega
   rw[ag c,ag e,xk f (n/10)];simp[hd,b];omega
theorem FC (n:Nat):(Nat.repr n).toList.map Char.toNat=(Lw.decimal n).map (fun (c:UInt8)=>c.toNat):=by
 unfold Nat.repr Nat.toDigits Lw.decimal;rw[String.toList_ofList,xk];simp
def oh (e:Int):Lw.Bytes:=(if e<0 then [45] else [])++Lw.decimal e.natAbs
theorem mj (i:Int):(toString i).toList.map Char.toNat=(oh i).map (fun (c:UInt8)=>c.toNat):=by
 cases i with
 | ofNat m =>
  show (Nat.repr m).toList.map Char.toNat=_;rw[FC];unfold oh;rw[ag (show ¬Int.ofNat m<0 from Int.not_lt.mpr (fK m))];rfl
 | negSucc m =>
  show ("-"++Nat.repr (m+1)).toList.map Char.toNat=_;rw[String.toList_append,yF,FC];unfold oh;rw[ao Kf];rfl
theorem k6 (x:String):(Str.ofString x).cps.toList=x.toList.map Char.toNat:=by
 rw[Str.ofString_eq_toList]
theorem RP (i j:Int):(Str.ofString (toString i)++Str.ofString "e"++Str.ofString (toString j)).cps.toList=(oh i++((101:UInt8)::oh j)).map (fun (c:UInt8)=>c.toNat):=by
 rw[Str.cps_append,Str.cps_append,Array.toList_append,Array.toList_append,k6,k6,k6,mj,mj,yF,fT,kG];rfl
theorem JI:∀(f g n:Nat),n<10^(f+1)→(Lw.digitsOn g n).length≤f+1
 | f,0,n,_=>by simp[Lw.digitsOn]
 | 0,g+1,n,h=>by
  unfold Lw.digitsOn;rw[ao (by simpa using h)];simp
 | f+1,g+1,n,h=>by
  unfold Lw.digitsOn;split
  ·simp
  ·have:=JI f g (n/10) (by rw[gW] at h;omega);rw[cT];simp;omega
theorem xm {i:Int} (h:i.natAbs<10^21):(oh i).length≤30:=by
 have:=JI 20 (i.natAbs+1) i.natAbs h;unfold oh Lw.decimal;rw[cT];split<;>simp<;>omega
theorem JJ (n:Nat):oh (n:Int)=Lw.decimal n:=by
 unfold oh;rw[ag Kf,JY];rfl
theorem str_len (i:Int):(Str.ofString (toString i)).length=(oh i).length:=by
 have e:=a7 List.length (k6 (toString i));rw[mj,aF,yP] at e;exact e
theorem sk (a b:Str):(a++b).length=a.length+b.length:=by
 show (a++b).cps.size=_;rw[Str.cps_append,Array.size_append];rfl
theorem C6 {i:Int} (h:i.natAbs<10^21):i.natAbs.log2<1920:=by
 rcases Nat.eq_zero_or_pos i.natAbs with z | z
 ·rw[z];decide
 ·exact(Nat.log2_lt Kf).mpr (b5 h (bZ (show 10^21≤2^100 by decide) (fb J9 J9)))
section
variable {P:Program} {w:World} {K:aP} {mg:Str→Option Value} {base:Heap} {C C2 C3:Addr}
def vt (K:aP) (C:Addr):Sp:=fun vs H Q _=>∃d e,vs=[.int d,.int e]∧(0<d∧d<10^19∧-2000≤e∧e≤2000)∧∀a H',aI H H'→H' a=some (.lst (dZ (Lw.decimal (Lw.stripped 20 d.toNat e).1++((101:UInt8)::oh (Lw.stripped 20 d.toNat e).2))))→Q (.ref a) H'
theorem jN:aD ["digits","exponent"] ["digits","exponent"] (ay (top 129)):=bz
theorem xn (ak:Ev K mg C C2 C3):cw P w K mg base "spelled_digits" ["digits","exponent"] 2 (vt K C):=by
 have T:=ak.T;refine cQ (ak.df 81) jN lp (lr fun f bw A outer s H Q E hr d e h=>?_);obtain⟨hp,q⟩:=h;obtain⟨D,rfl⟩:=aA (bo hp.1);refine⟨_,ah (jO PassesOwn.never (cy (b8 bp (aH jE (pv 0) (al)) (al))) (ah (sv 0 jN.nd (aH ip (pv 0) (al))) (aj (sv 1 jN.nd (aH bX (pv 1) (al)))))) (aj (aq (pf (jM ak) hr (aa (T8 (pv 0) nE (pv 1)) (ae))))),?w1⟩
 case w1 =>
  refine gU (fun (p:Nat×Int) σ H'=>σ=[some (.int (p.1:Nat)),some (.int p.2)]∧H'=H∧0<p.1∧p.1<10^19∧-2000≤p.2∧(p.2+p.1≤2000+D)∧∃f,p.1<10^f∧Lw.stripped f p.1 p.2=Lw.stripped 20 D e) (fun p=>p.1) (D,e) ?_ ?_
  ·exact⟨rfl,rfl,by have:=hp.1;omega,by have:=hp.2.1;omega,hp.2.2.1,by have:=hp.2.2.2;omega,20,by have:=hp.2.1;show D<10^20;omega,rfl⟩
  ·rintro⟨n,x⟩ σ H' ⟨rfl,rfl,n0,n1,x0,x1,f,hf,hs⟩;dsimp only at n0 n1 x0 x1 hf hs;have dD:=hp.2.1;refine⟨(decide (((n:Nat):Int)%10=0)),eJ rfl rfl rfl (show (0:Int)<10 by decide) (ck rfl rfl rfl ?d1),aK (fun h1=>eJ rfl rfl rfl (u9 J9 J9) (bP rfl rfl rfl ?e1)) (fun h1=>cP rfl rfl ?c1 ⟨?c2,?c3,cP rfl rfl ?c4 ⟨?c5,eG rfl ?p1 (fun a1 H1 s1 x1=>q _ _ (s1) (b4 (x1) ?r1))⟩⟩)⟩
   case d1=>exact⟨rfl,rfl⟩
   case e1 =>
    have z:=dt h1;obtain⟨f',g1,g2,g3⟩:=BF.strip_go (e:=x) n0 hf Kf;refine⟨(n/10,x+1),⟨?_,rfl,g2,by show n/10<_;omega,by show -2000≤x+1;omega,by show x+1+((n/10:Nat):Int)≤_;omega,f',g3,g1.symm.trans hs⟩,by show n/10<n;omega⟩;show _=[some (V.int ((n/10:Nat):Int)),some (V.int (x+1))];rw[JW];rfl
   all_goals have la:=xm (i:=(n:Int)) Kf
   all_goals have lb:=xm (i:=x) Kf
   all_goals have lc:=str_len (n:Int)
   all_goals have ld:=str_len x
   case c1=>exact C6 Kf
   case c2=>show (Str.ofString (toString ((n:Nat):Int))).length≤_;unfold sizeLine;omega
   case c3=>show (Str.ofString (toString ((n:Nat):Int))++Str.ofString "e").length≤_;rw[sk];unfold sizeLine;have:(Str.ofString "e").length=1:=(by decide +kernel);omega
   case c4=>exact C6 Kf
   case c5=>show (Str.ofString (toString ((n:Nat):Int))++Str.ofString "e"++Str.ofString (toString x)).length≤_;rw[sk,sk];unfold sizeLine;have:(Str.ofString "e").length=1:=(by decide +kernel);omega
   case p1=>show (Str.ofString (toString ((n:Nat):Int))++Str.ofString "e"++Str.ofString (toString x)).length≤1000;rw[sk,sk];have:(Str.ofString "e").length=1:=(by decide +kernel);omega
   case r1 =>
    have st:Lw.stripped 20 D e=(n,x):=by rw[←hs];exact BF.strip_stop n0 hf (fun z=>df h1 Kf)
    rw[aN,st];refine(a7 (List.map fun (c:Nat)=>V.int c) (RP (n:Int) x)).trans ?_;rw[js,JJ];rfl
end
def tJ (k:Int) (x:Nat):Lw.Bytes:=match (BF.fm k).kind x with
 | .num _ q=>Lw.decimal (Lw.shortest (BF.fm k) ((BF.fm k).abs x) (Lw.size q)).1++((101:UInt8)::oh (Lw.shortest (BF.fm k) ((BF.fm k).abs x) (Lw.size q)).2)
 | _=>[]
def mW (k:Int) (x:Nat):Lw.Bytes:=if BF.hG (BF.fm k) x=true then Lw.INF else if BF.eA (BF.fm k) x=true then [48] else tJ k x
theorem FD {k:Int} {X:Nat} (hx:VB k (X:Int)) (h:BF.cp (BF.fm k) X=true):(BF.fm k).text X=Lw.NAN:=by
 unfold Lw.Fmt.text;rcases BF.way (BF.fm k) (BF.dk k) (bY hx) with ⟨a,b⟩ | ⟨s,a,b⟩ | ⟨s,X',S,p,a,b,c,d⟩
 ·rw[b]
 ·rw[a] at h;cases h
 ·rw[a] at h;cases h
theorem FE {k:Int} {X:Nat} (hx:VB k (X:Int)) (h:BF.cp (BF.fm k) X=false):(BF.fm k).text X=(if BF.aU (BF.fm k)≤(X:Int) then [45] else [])++mW k X:=by
 unfold Lw.Fmt.text mW tJ;rcases BF.way (BF.fm k) (BF.dk k) (bY hx) with ⟨a,b⟩ | ⟨s,a,b,c,d,e⟩ | ⟨s,X',S,p,a,b,c,d,e⟩
 ·rw[a] at h;cases h
 ·rw[d,b,ao rfl,←e];simp only[dG]
 ·rw[d,b,c,ag (show ¬(false=true) by decide),←e];simp only[dG];by_cases z:S=0
  ·have:BF.bK s ((S:Rat)*Lw.two p)=0:=by
    rw[z,show ((0:Int):Rat)=0 from rfl,bF];cases s<;>rfl
   rw[←e] at this;rw[ao this,ao z];split<;>rfl
  ·have:=dF (s:=s) (p:=p) z;rw[←e] at this;rw[ag this,ag z];rfl
section
variable {P:Program} {w:World} {K:aP} {mg:Str→Option Value} {base:Heap} {C C2 C3:Addr}
def G0 (K:aP) (C:Addr):Sp:=fun vs H Q _=>∃k x,vs=[.int k,.int x]∧(VB k x∧BF.cp (BF.fm k) x=false∧BF.hG (BF.fm k) x=false∧BF.eA (BF.fm k) x=false)∧∀a H',aI H H'→H' a=some (.lst (dZ (tJ k x.toNat)))→Q (.ref a) H'
end
theorem Sm.ten {n:Nat} {z:Int} (h:Sm n z):Sm (n+4) (10*z):=by
 unfold Sm at *;rw[JU,eC];show 10*_<_;omega
theorem C7 {k:Int} {X:Nat} (hx:VB k (X:Int)) (h1:BF.cp (BF.fm k) X=false) (h2:BF.hG (BF.fm k) X=false) (h3:BF.eA (BF.fm k) X=false) :
  ∃Y:Nat,BF.Norm (BF.fm k) (BF.ta (BF.fm k) (X:Int)).size (BF.ta (BF.fm k) (X:Int)).power Y∧tJ k X=Lw.decimal (Lw.shortest (BF.fm k) Y (((BF.ta (BF.fm k) (X:Int)).size:Rat)*Lw.two (BF.ta (BF.fm k) (X:Int)).power)).1++((101:UInt8)::oh (Lw.shortest (BF.fm k) Y (((BF.ta (BF.fm k) (X:Int)).size:Rat)*Lw.two (BF.ta (BF.fm k) (X:Int)).power)).2):=by
 obtain⟨Y,s,q,kd,sz,ab,N⟩:=BF.La (bY hx) h1 h2 h3;refine⟨Y,N,?_⟩;unfold tJ;rw[kd];show Lw.decimal (Lw.shortest (BF.fm k) ((BF.fm k).abs X) (Lw.size q)).1++((101:UInt8)::oh (Lw.shortest (BF.fm k) ((BF.fm k).abs X) (Lw.size q)).2)=_;rw[sz,ab]
theorem OT {k:Int} {X:Nat} (hx:VB k (X:Int)) (h1:BF.cp (BF.fm k) X=false):(mW k X).length≤100:=by
 unfold mW;split
 ·decide
 ·next h2 =>
  split
  ·decide
  ·next h3 =>
   obtain⟨Y,N,e⟩:=C7 hx h1 (aV _ |>.mp h2) (aV _ |>.mp h3);have ⟨a,b,c⟩:=BF.Gv N;rw[e,cT,cN,←JJ];have l1:=xm (i:=(((Lw.shortest (BF.fm k) Y (((BF.ta (BF.fm k) (X:Int)).size:Rat)*Lw.two (BF.ta (BF.fm k) (X:Int)).power)).1:Nat):Int)) Kf;have l2:=xm (i:=(Lw.shortest (BF.fm k) Y (((BF.ta (BF.fm k) (X:Int)).size:Rat)*Lw.two (BF.ta (BF.fm k) (X:Int)).power)).2) Kf;omega
theorem C8 {k:Int} {x:Int} (hx:VB k x):(mW k x.toNat).length≤100:=by
 obtain⟨X,rfl⟩:=aA hx.2.1;rw[aN];cases h:BF.cp (BF.fm k) X with
 | false=>exact OT hx h
 | true =>
  rcases BF.way (BF.fm k) (BF.dk k) (bY hx) with ⟨a,b⟩ | ⟨s,a,b⟩ | ⟨s,X',S,p,a,b,c,d⟩
  ·unfold mW tJ;rw[b];split
   ·decide
   ·split
    ·decide
    ·exact iA _
  ·rw[a] at h;cases h
  ·rw[a] at h;cases h
theorem FF {k:Int} {x:Int} (hx:VB k x):((BF.fm k).text x.toNat).length≤101:=by
 obtain⟨X,rfl⟩:=aA hx.2.1;have sl:=C8 hx;rw[aN] at *;cases h:BF.cp (BF.fm k) X with
 | false =>
  rw[FE hx h,cT];split<;>simp<;>omega
 | true=>rw[FD hx h];decide
section
variable {P:Program} {w:World} {K:aP} {mg:Str→Option Value} {base:Heap} {C C2 C3:Addr}
theorem cZ:aD ["kind","a","u","middle","narrow","low","high","even","unit","d","exponent","digits"] ["kind","a"] (ay (top 126)):=bz
theorem JK (ak:Ev K mg C C2 C3):cw P w K mg base "shortest" ["kind","a"] 6 (G0 K C):=by
 have T:=ak.T;refine cQ (ak.df 78) cZ lp (lr fun f bw A outer s H Q E hr k x h=>?_);obtain⟨⟨hx,h0,hi,hz⟩,q⟩:=h;obtain⟨X,rfl⟩:=aA hx.2.1;obtain⟨Y,N,eB⟩:=C7 hx h0 hi hz;have hu:=cM hx;have sm:=BF.gL k;have ⟨t1,t2,b1,b2,q0⟩:=BF.tu N;have S0:=N.s0;have sS:Sm 53 (BF.ta (BF.fm k) (X:Int)).size:=hu.2.1;have ZV:=hu.2.2.1;have hp2:=hu.2.2.2;have sM:Sm 60 (4*(BF.ta (BF.fm k) (X:Int)).size):=(Sm.mul (show Sm 3 4 by unfold Sm;decide) sS).mono J9;have sL:Sm 62 (4*(BF.ta (BF.fm k) (X:Int)).size-(if ((BF.ta (BF.fm k) (X:Int)).size=2^(BF.fm k).m∧BF.az (BF.fm k)<(BF.ta (BF.fm k) (X:Int)).power) then 1 else 2)):=by
  unfold Sm at *;split<;>omega
 have sH:Sm 62 (4*(BF.ta (BF.fm k) (X:Int)).size+2):=by
  unfold Sm at *;omega
 have sU:Sm 2048 (1*2^(if (0:Int)>(BF.ta (BF.fm k) (X:Int)).power-2 then 0 else (BF.ta (BF.fm k) (X:Int)).power-2).toNat):=(Sm.shl (a:=1) (show Sm 1 1 by unfold Sm;decide)).mono (by split<;>omega);have sD:Sm 1100 (1*2^(if (0:Int)>2-(BF.ta (BF.fm k) (X:Int)).power then 0 else 2-(BF.ta (BF.fm k) (X:Int)).power).toNat):=(Sm.shl (a:=1) (show Sm 1 1 by unfold Sm;decide)).mono (by split<;>omega);refine⟨_,ah (sv 2 cZ.nd (pf (bA ak) hr (aa (pv 0) (aa (pv 1) (ae))))) (ah (sv 3 cZ.nd (aH cK (al) (a8 T.ex .size (pv 2)))) (ah (sv 4 cZ.nd (cY (lN (iz bp (a8 T.ex .size (pv 2)) (aH dT (al) (ia T.e8 rfl (pv 0)))) (jh (iz eX (a8 T.ex .power (pv 2)) (pf (kr ak) hr (aa (pv 0) (ae)))))))) (ah (sv 5 cZ.nd (aH dm (pv 3) (cY (b9 (aQ (pv 4)) (al) (al))))) (ah (sv 6 cZ.nd (aH bX (pv 3) (al))) (ah (sv 7 cZ.nd (iz bp (aH jE (a8 T.ex .size (pv 2)) (al)) (al))) (ah (sv 8 cZ.nd (aH dT (al) (bW (pR rfl) rfl T.GC boot_max (aa (aH dm (a8 T.ex .power (pv 2)) (al)) (aa (al) (ae)))))) (ah (sv 9 cZ.nd (aH dT (al) (bW (pR rfl) rfl T.GC boot_max (aa (aH dm (al) (a8 T.ex .power (pv 2))) (aa (al) (ae)))))) (ah (sv 10 cZ.nd (al)) (ah (jO PassesOwn.never (cy (b8 mv (aH cK (pv 3) (pv 8)) (aH cK (al) (pv 9)))) (ah (sv 9 cZ.nd (aH cK (al) (pv 9))) (aj (sv 10 cZ.nd (aH bX (pv 10) (al)))))) (ah (jO PassesOwn.never (cy (b8 jv (aH cK (pv 3) (pv 8)) (pv 9))) (ah (sv 8 cZ.nd (aH cK (al) (pv 8))) (aj (sv 10 cZ.nd (aH dm (pv 10) (al)))))) (ah (sv 11 cZ.nd (pf (oe ak) hr (aa (aH cK (pv 5) (pv 8)) (aa (aH cK (pv 3) (pv 8)) (aa (aH cK (pv 6) (pv 8)) (aa (pv 9) (aa (pv 7) (ae)))))))) (ah (jO PassesOwn.never (cy (b8 SJ (pv 11) Ma)) (ah (sv 8 cZ.nd (aH cK (al) (pv 8))) (ah (sv 10 cZ.nd (aH dm (pv 10) (al))) (aj (sv 11 cZ.nd (pf (oe ak) hr (aa (aH cK (pv 5) (pv 8)) (aa (aH cK (pv 3) (pv 8)) (aa (aH cK (pv 6) (pv 8)) (aa (pv 9) (aa (pv 7) (ae)))))))))))) (aj (aq (pf (xn ak) hr (aa (pv 11) (aa (pv 10) (ae)))))))))))))))))),br rfl rfl rfl ?p1 (fun a1 H1 s1 x1=>aW rfl rfl (x1) (bJ rfl rfl ?c1 ⟨.bl (decide ((BF.ta (BF.fm k) (X:Int)).size=2^(BF.fm k).m)&&decide (BF.az (BF.fm k)<(BF.ta (BF.fm k) (X:Int)).power)),ax rfl rfl (x1) rfl (bG rfl (uw hx.1) (bJ rfl rfl ?c2 (ck rfl rfl rfl (aK (fun h1=>ax rfl rfl (x1) rfl (eG rfl ?p2 (bG rfl rfl ?d1))) (fun h1=>?d2))))),bg rfl ⟨.int (if ((BF.ta (BF.fm k) (X:Int)).size=2^(BF.fm k).m∧BF.az (BF.fm k)<(BF.ta (BF.fm k) (X:Int)).power) then 1 else 2),aR rfl rfl (aK (fun h2=>?d3) (fun h2=>?d4)),bG rfl rfl (bP rfl rfl rfl (aW rfl rfl (x1) (bJ rfl rfl (show (0:Int)<2 by decide) (bG rfl rfl (aW rfl rfl (x1) (bG rfl rfl ⟨_,_,rfl,bJ rfl rfl ?c3 (aW rfl rfl (x1) (bG rfl rfl ⟨_,_,rfl,bJ rfl rfl ?c4 ?w1⟩))⟩))))))⟩⟩))⟩
 case p1=>exact hx
 case c1=>exact⟨b6 J9 J9,sS.mono J9⟩
 case c2=>exact aaz Kf
 case p2=>exact hx.1
 case d1=>exact⟨by rw[←Jf (BF.fm k).m,h1];rfl,rfl⟩
 case d2=>exact⟨by rw[←Jf (BF.fm k).m,aV _ |>.mp h1];rfl,rfl⟩
 case d3=>have z:=j6.mp h2;exact⟨by rw[ao ⟨dt z.1,dt z.2⟩],rfl⟩
 case d4=>exact⟨by rw[ag fun z=>h2 (j6.mpr ⟨du z.1,du z.2⟩)],rfl⟩
 case c3=>exact⟨by split<;>omega,by split<;>omega,b6 J9 J9⟩
 case c4=>exact⟨by split<;>omega,by split<;>omega,b6 J9 J9⟩
 case w1 =>
  refine gU (fun (z:Int×Int) σ H'=>σ=[some (.int k),some (.int (X:Int)),some (.ref a1),some (.int (4*(BF.ta (BF.fm k) (X:Int)).size)),some (.bl (decide ((BF.ta (BF.fm k) (X:Int)).size=2^(BF.fm k).m)&&decide (BF.az (BF.fm k)<(BF.ta (BF.fm k) (X:Int)).power))),some (.int (4*(BF.ta (BF.fm k) (X:Int)).size-(if ((BF.ta (BF.fm k) (X:Int)).size=2^(BF.fm k).m∧BF.az (BF.fm k)<(BF.ta (BF.fm k) (X:Int)).power) then 1 else 2))),some (.int (4*(BF.ta (BF.fm k) (X:Int)).size+2)),some (.bl (decide ((BF.ta (BF.fm k) (X:Int)).size%2=0))),some (.int (1*2^(if (0:Int)>(BF.ta (BF.fm k) (X:Int)).power-2 then 0 else (BF.ta (BF.fm k) (X:Int)).power-2).toNat)),some (.int z.1),some (.int z.2),none]∧H'=H1∧BF.ik (BF.ta (BF.fm k) (X:Int)).power (1*2^(if (0:Int)>(BF.ta (BF.fm k) (X:Int)).power-2 then 0 else (BF.ta (BF.fm k) (X:Int)).power-2).toNat) z.1 z.2∧0≤z.2∧z.2≤308∧Sm (1100+4*z.2.toNat) z.1) (fun z=>(400-z.2).toNat) ((1*2^(if (0:Int)>2-(BF.ta (BF.fm k) (X:Int)).power then 0 else 2-(BF.ta (BF.fm k) (X:Int)).power).toNat),0) ⟨rfl,rfl,BF.ik.start _,by show (0:Int)≤0;decide,by show (0:Int)≤308;decide,sD.mono (by show 1100≤1100+4*(0:Int).toNat;decide)⟩ ?_;rintro⟨d',E⟩ σ H' ⟨rfl,hH,sc,e0,e1,sd⟩;subst H';dsimp only at sc e0 e1 sd;refine⟨(decide (10*d'≤4*(BF.ta (BF.fm k) (X:Int)).size*(1*2^(if (0:Int)>(BF.ta (BF.fm k) (X:Int)).power-2 then 0 else (BF.ta (BF.fm k) (X:Int)).power-2).toNat))),aR rfl rfl (bJ rfl rfl ?c5 (eJ rfl rfl rfl ?c6 (ck rfl rfl rfl ?d5))),aK (fun h3=>eJ rfl rfl rfl ?c7 (bP rfl rfl rfl ?e1)) (fun h3=>?w2)⟩
  case c5=>exact⟨sM.mono J9,sU.mono J9⟩
  case c6=>exact⟨b6 J9 J9,sd.mono Kf⟩
  case d5=>exact⟨rfl,rfl⟩
  case c7=>exact⟨b6 J9 J9,sd.mono Kf⟩
  case e1 =>
   have g:=(sc.ge10 (BF.ta (BF.fm k) (X:Int)).size).mp (dt h3);have l:=BF.jV.mp (show Lw.ten (E+1)<Lw.ten 309 by grind);exact⟨(10*d',E+1),⟨rfl,rfl,sc.IV,by show 0≤E+1;omega,by show E+1≤308;omega,(Sm.ten sd).mono (by show _≤1100+4*(E+1).toNat;omega)⟩,by show (400-(E+1)).toNat<(400-E).toNat;omega⟩
  case w2 =>
   have g:(((BF.ta (BF.fm k) (X:Int)).size:Rat)*Lw.two (BF.ta (BF.fm k) (X:Int)).power)<Lw.ten (E+1):=Rat.not_le.mp fun z=>df h3 ((sc.ge10 (BF.ta (BF.fm k) (X:Int)).size).mpr z);refine gU (fun (z:Int×Int) σ H'=>σ=[some (.int k),some (.int (X:Int)),some (.ref a1),some (.int (4*(BF.ta (BF.fm k) (X:Int)).size)),some (.bl (decide ((BF.ta (BF.fm k) (X:Int)).size=2^(BF.fm k).m)&&decide (BF.az (BF.fm k)<(BF.ta (BF.fm k) (X:Int)).power))),some (.int (4*(BF.ta (BF.fm k) (X:Int)).size-(if ((BF.ta (BF.fm k) (X:Int)).size=2^(BF.fm k).m∧BF.az (BF.fm k)<(BF.ta (BF.fm k) (X:Int)).power) then 1 else 2))),some (.int (4*(BF.ta (BF.fm k) (X:Int)).size+2)),some (.bl (decide ((BF.ta (BF.fm k) (X:Int)).size%2=0))),some (.int z.1),some (.int d'),some (.int z.2),none]∧H'=H1∧BF.ik (BF.ta (BF.fm k) (X:Int)).power z.1 d' z.2∧z.2≤308∧-326≤z.2∧(((BF.ta (BF.fm k) (X:Int)).size:Rat)*Lw.two (BF.ta (BF.fm k) (X:Int)).power)<Lw.ten (z.2+1)∧Sm (2048+4*(308-z.2).toNat) z.1) (fun z=>(z.2+400).toNat) ((1*2^(if (0:Int)>(BF.ta (BF.fm k) (X:Int)).power-2 then 0 else (BF.ta (BF.fm k) (X:Int)).power-2).toNat),E) ⟨rfl,rfl,sc,e1,by show -326≤E;omega,g,sU.mono (by show 2048≤2048+4*(308-E).toNat;omega)⟩ ?_;rintro⟨u,E2⟩ σ H' ⟨rfl,hH,Er,f1,f0,g2,su⟩;subst H';dsimp only at Er f1 f0 g2 su;have sdd:Sm 2400 d':=sd.mono Kf;have L1:Sm 4600 u:=su.mono Kf;refine⟨(decide (4*(BF.ta (BF.fm k) (X:Int)).size*u<d')),aR rfl rfl (bJ rfl rfl ?c8 (aE rfl rfl rfl rfl ?d6)),aK (fun h4=>eJ rfl rfl rfl ?c9 (bP rfl rfl rfl ?e2)) (fun h4=>aR rfl rfl (bJ rfl rfl ?c10 (aR rfl rfl (bJ rfl rfl ?c11 (aR rfl rfl (bJ rfl rfl ?c12 (aR rfl rfl (jY rfl ?p3 ?w3))))))))⟩
   case c8=>exact⟨sM.mono J9,L1.mono J9⟩
   case d6=>exact⟨rfl,rfl⟩
   case c9=>exact⟨b6 J9 J9,L1.mono J9⟩
   case e2 =>
    have g3:=(Er.lt (BF.ta (BF.fm k) (X:Int)).size).mp (dt h4);have l:=BF.jV.mp (show Lw.ten (-325)<Lw.ten E2 by grind);exact⟨(10*u,E2-1),⟨rfl,rfl,Er.W9,by show E2-1≤308;omega,by show -326≤E2-1;omega,by show _<Lw.ten (E2-1+1);rw[show E2-1+1=E2 by omega];exact g3,(Sm.ten su).mono (by show _≤2048+4*(308-(E2-1)).toNat;omega)⟩,by show (E2-1+400).toNat<(E2+400).toNat;omega⟩
   case c10=>exact⟨sL.mono J9,L1.mono J9⟩
   case c11=>exact⟨sM.mono J9,L1.mono J9⟩
   case c12=>exact⟨sH.mono J9,L1.mono J9⟩
   case p3=>exact⟨Er.d0,fE Kf (bo Er.u0),sdd.mono J9,(Sm.mul sM L1).mono J9⟩
   case w3 =>
    have tE:Lw.ten E2≤(((BF.ta (BF.fm k) (X:Int)).size:Rat)*Lw.two (BF.ta (BF.fm k) (X:Int)).power):=dY.mp fun z=>df h4 ((Er.lt (BF.ta (BF.fm k) (X:Int)).size).mpr z);have L:=BF.NY q0 b1 b2 tE g2;refine gU (fun (z:Nat×Int) σ H'=>σ=[some (.int k),some (.int (X:Int)),some (.ref a1),some (.int (4*(BF.ta (BF.fm k) (X:Int)).size)),some (.bl (decide ((BF.ta (BF.fm k) (X:Int)).size=2^(BF.fm k).m)&&decide (BF.az (BF.fm k)<(BF.ta (BF.fm k) (X:Int)).power))),some (.int (4*(BF.ta (BF.fm k) (X:Int)).size-(if ((BF.ta (BF.fm k) (X:Int)).size=2^(BF.fm k).m∧BF.az (BF.fm k)<(BF.ta (BF.fm k) (X:Int)).power) then 1 else 2))),some (.int (4*(BF.ta (BF.fm k) (X:Int)).size+2)),some (.bl (decide ((BF.ta (BF.fm k) (X:Int)).size%2=0))),some (.int z.2),some (.int d'),some (.int (E2-(z.1:Int))),some (MU ((BF.jq (BF.fm k) Y (((BF.ta (BF.fm k) (X:Int)).size:Rat)*Lw.two (BF.ta (BF.fm k) (X:Int)).power) (E2-(z.1:Int))).map Int.ofNat))]∧H'=H1∧BF.ik (BF.ta (BF.fm k) (X:Int)).power z.2 d' (E2-(z.1:Int))∧z.1<17∧(∀i:Nat,i<z.1→BF.jq (BF.fm k) Y (((BF.ta (BF.fm k) (X:Int)).size:Rat)*Lw.two (BF.ta (BF.fm k) (X:Int)).power) (E2-(i:Int))=none)∧Sm (5000+4*z.1) z.2) (fun z=>20-z.1) (0,u) ⟨?_,rfl,by show BF.ik _ u d' (E2-((0:Nat):Int));rw[show E2-((0:Nat):Int)=E2 by omega];exact Er,by show 0<17;decide,fun i hi=>absurd hi (Nat.not_lt_zero _),L1.mono (by show 4600≤5000+4*0;decide)⟩ ?_
    ·show _=[some (.int k),some (.int (X:Int)),some (.ref a1),some (.int (4*(BF.ta (BF.fm k) (X:Int)).size)),some (.bl (decide ((BF.ta (BF.fm k) (X:Int)).size=2^(BF.fm k).m)&&decide (BF.az (BF.fm k)<(BF.ta (BF.fm k) (X:Int)).power))),some (.int (4*(BF.ta (BF.fm k) (X:Int)).size-(if ((BF.ta (BF.fm k) (X:Int)).size=2^(BF.fm k).m∧BF.az (BF.fm k)<(BF.ta (BF.fm k) (X:Int)).power) then 1 else 2))),some (.int (4*(BF.ta (BF.fm k) (X:Int)).size+2)),some (.bl (decide ((BF.ta (BF.fm k) (X:Int)).size%2=0))),some (.int u),some (.int d'),some (.int (E2-((0:Nat):Int))),some (MU ((BF.jq (BF.fm k) Y (((BF.ta (BF.fm k) (X:Int)).size:Rat)*Lw.two (BF.ta (BF.fm k) (X:Int)).power) (E2-((0:Nat):Int))).map Int.ofNat))];rw[show E2-((0:Nat):Int)=E2 by omega,←BF.yU (BF.fm k) (BF.dk k) N tE Er.d0 Er.eq];rfl
    rintro⟨i,u3⟩ σ H' ⟨rfl,hH,RQ,XN,hn,XO⟩;subst H';dsimp only at RQ XN hn XO;have su4:Sm 5100 u3:=XO.mono Kf;have UR:Sm 5200 (10*u3):=(Sm.ten su4).mono J9;show ∃c,_∧_;cases hd:BF.jq (BF.fm k) Y (((BF.ta (BF.fm k) (X:Int)).size:Rat)*Lw.two (BF.ta (BF.fm k) (X:Int)).power) (E2-(i:Int)) with
    | none =>
     refine⟨true,eG rfl rfl (bg rfl ?d7),?_⟩
     case d7=>exact⟨rfl,rfl⟩
     rw[ao rfl];refine eJ rfl rfl rfl ?c13 (bP rfl rfl rfl (aR rfl rfl (bJ rfl rfl ?c14 (aR rfl rfl (bJ rfl rfl ?c15 (aR rfl rfl (bJ rfl rfl ?c16 (aR rfl rfl (jY rfl ?p4 ?e3)))))))))
     case c13=>exact⟨b6 J9 J9,su4.mono J9⟩
     case c14=>exact⟨sL.mono J9,UR.mono J9⟩
     case c15=>exact⟨sM.mono J9,UR.mono J9⟩
     case c16=>exact⟨sH.mono J9,UR.mono J9⟩
     case p4=>exact⟨Er.d0,fE Kf (by have:=RQ.u0;omega),sdd.mono J9,(Sm.mul sM UR).mono J9⟩
     case e3 =>
      have i16:i≠16:=by
       rintro rfl;obtain⟨D,hD⟩:=BF.ME N;rw[L,hd] at hD;cases hD
      have eE:E2-(i:Int)-1=E2-((i+1:Nat):Int):=by omega
      refine⟨(i+1,10*u3),⟨?_,rfl,by show BF.ik _ (10*u3) d' (E2-((i+1:Nat):Int));rw[←eE];exact RQ.W9,by show i+1<17;omega,?_,(Sm.ten XO).mono (by show _≤5000+4*(i+1);omega)⟩,by show 20-(i+1)<20-i;omega⟩
      ·show _=[some (.int k),some (.int (X:Int)),some (.ref a1),some (.int (4*(BF.ta (BF.fm k) (X:Int)).size)),some (.bl (decide ((BF.ta (BF.fm k) (X:Int)).size=2^(BF.fm k).m)&&decide (BF.az (BF.fm k)<(BF.ta (BF.fm k) (X:Int)).power))),some (.int (4*(BF.ta (BF.fm k) (X:Int)).size-(if ((BF.ta (BF.fm k) (X:Int)).size=2^(BF.fm k).m∧BF.az (BF.fm k)<(BF.ta (BF.fm k) (X:Int)).power) then 1 else 2))),some (.int (4*(BF.ta (BF.fm k) (X:Int)).size+2)),some (.bl (decide ((BF.ta (BF.fm k) (X:Int)).size%2=0))),some (.int (10*u3)),some (.int d'),some (.int (E2-((i+1:Nat):Int))),some (MU ((BF.jq (BF.fm k) Y (((BF.ta (BF.fm k) (X:Int)).size:Rat)*Lw.two (BF.ta (BF.fm k) (X:Int)).power) (E2-((i+1:Nat):Int))).map Int.ofNat))];rw[←eE,←BF.yU (BF.fm k) (BF.dk k) N (Bc (BF.qj Kf) tE) RQ.d0 RQ.W9.eq];rfl
      ·intro j hj;by_cases c:j<i
       ·exact hn j c
       ·rw[show j=i from Nat.le_antisymm (Nat.le_of_lt_succ hj) (DI c)];exact hd
    | some D =>
     refine⟨false,eG rfl rfl (bg rfl ?d7),?_⟩
     case d7=>exact⟨rfl,rfl⟩
     rw[ag J9];have dl:=BF.IW N XN (by rw[L];exact hd);refine br rfl rfl rfl ?p5 (fun a2 H2 s2 x2=>q _ _ ((s1).trans s2) (b4 (x2) ?r1))
     case p5=>exact⟨by show (0:Int)<((D:Nat):Int);omega,by show ((D:Nat):Int)<10^19;omega,Kf,Kf⟩
     case r1 =>
      rw[aN,eB,BF.wm (BF.fm k) Y _ XN (by rw[L];exact hn) (by rw[L];exact hd),L];rfl
def Es (K:aP) (C:Addr):Sp:=fun vs H Q _=>∃k x,vs=[.int k,.int x]∧(VB k x∧BF.cp (BF.fm k) x=false)∧∀a H',aI H H'→H' a=some (.lst (dZ (mW k x.toNat)))→Q (.ref a) H'
theorem Et:aD ["kind","a"] ["kind","a"] (ay (top 125)):=bz
theorem G1 (ak:Ev K mg C C2 C3):cw P w K mg base "told_size" ["kind","a"] 7 (Es K C):=by
 have T:=ak.T;refine cQ (ak.df 77) Et lp (lr fun f bw A outer s H Q E hr k x h=>?_);obtain⟨⟨hx,h0⟩,q⟩:=h;obtain⟨X,rfl⟩:=aA hx.2.1;refine⟨_,ah (aS (aQ (pf (gA ak) hr (aa (pv 0) (aa (pv 1) (ae))))) (aj (aq (pf (jM ak) hr (aa (nE) (ae))))) (aB)) (ah (aS (aQ (pf (jc ak) hr (aa (pv 0) (aa (pv 1) (ae))))) (aj (aq (pf (jM ak) hr (aa (nE) (ae))))) (aB)) (aj (aq (pf (JK ak) hr (aa (pv 0) (aa (pv 1) (ae))))))),bx rfl rfl rfl ?p1 rfl (aK (fun h1=>eG rfl ?p2 (fun a1 H1 s1 x1=>q _ _ (s1) (b4 (x1) ?r1))) (fun h1=>bx rfl rfl rfl ?p3 rfl (aK (fun h2=>eG rfl ?p4 (fun a2 H2 s2 x2=>q _ _ (s2) (b4 (x2) ?r2))) (fun h2=>br rfl rfl rfl ?p5 (fun a3 H3 s3 x3=>q _ _ (s3) (b4 (x3) ?r3))))))⟩
 case p1=>exact⟨hx.1,Kf⟩
 case p2=>decide +kernel
 case r1=>rw[aN];unfold mW;rw[ao h1,show (Str.ofString "inf").cps.toList=[105,110,102] by decide +kernel];rfl
 case p3=>exact⟨hx.1,Kf⟩
 case p4=>decide +kernel
 case r2=>rw[aN];unfold mW;rw[ag h1,ao h2,show (Str.ofString "0").cps.toList=[48] by decide +kernel];rfl
 case p5=>exact⟨hx,h0,aV _ |>.mp h1,aV _ |>.mp h2⟩
 case r3=>rw[aN];unfold mW;rw[ag h1,ag h2]
def RS (K:aP) (C:Addr):Sp:=fun vs H Q _=>∃k x,vs=[.int k,.int x]∧(VB k x∧(mW k x.toNat).length≤1000)∧∀a H',aI H H'→H' a=some (.lst (dZ ((BF.fm k).text x.toNat)))→Q (.ref a) H'
theorem RT:aD ["kind","a"] ["kind","a"] (ay (top 124)):=bz
theorem US (ak:Ev K mg C C2 C3):cw P w K mg base "told" ["kind","a"] 8 (RS K C):=by
 have T:=ak.T;refine cQ (ak.df 76) RT lp (lr fun f bw A outer s H Q E hr k x h=>?_);obtain⟨⟨hx,hlen⟩,q⟩:=h;obtain⟨X,rfl⟩:=aA hx.2.1;refine⟨_,ah (aS (aQ (pf (fw ak) hr (aa (pv 0) (aa (pv 1) (ae))))) (aj (aq (pf (jM ak) hr (aa (nE) (ae))))) (aB)) (aj (aq (aH FU (pf (jM ak) hr (aa (cY (b9 (aQ (pf (dW ak) hr (aa (pv 0) (aa (pv 1) (ae))))) (nE) (nE))) (ae))) (pf (G1 ak) hr (aa (pv 0) (aa (pv 1) (ae))))))),bx rfl rfl rfl ?p1 rfl (aK (fun h1=>eG rfl ?p2 (fun a1 H1 s1 x1=>q _ _ (s1) (b4 (x1) ?r1))) (fun h1=>⟨.str (if BF.aU (BF.fm k)≤(X:Int) then Str.ofString "-" else Str.ofString ""),bx rfl rfl rfl ?p3 rfl (aK (fun h2=>?d1) (fun h2=>?d2)),eG rfl ?p4 (fun a2 H2 s2 x2=>br rfl rfl rfl ?p5 (fun a3 H3 s3 x3=>il rfl rfl ((s3 _ _ (x2))) (x3) ⟨?n1,fun l4 j5=>q _ _ (((s2).trans s3).trans (ai j5)) (b4 (aL) ?r2)⟩))⟩))⟩
 case p1=>exact⟨hx.1,Kf⟩
 case p2=>decide +kernel
 case r1=>rw[aN,FD hx h1,show (Str.ofString "nan").cps.toList=[110,97,110] by decide +kernel];rfl
 case p3=>exact hx.1
 case d1=>exact⟨by rw[ao (dt h2)],rfl⟩
 case d2=>exact⟨by rw[ag (df h2)],rfl⟩
 case p4=>split<;>decide +kernel
 case p5=>exact⟨hx,aV _ |>.mp h1⟩
 case n1 =>
  rw[aF,aF];have l1:(if BF.aU (BF.fm k)≤(X:Int) then Str.ofString "-" else Str.ofString "").cps.toList.length≤1:=by split<;>decide +kernel
  unfold sizeLine;omega
 case r2 =>
  rw[aN,FE hx (aV _ |>.mp h1)];by_cases c:BF.aU (BF.fm k)≤(X:Int)
  ·rw[ao c,ao c,show (Str.ofString "-").cps.toList=[45] by decide +kernel];rfl
  ·rw[ag c,ag c,show (Str.ofString "").cps.toList=[] by decide +kernel];rfl
end
theorem kD:∀{x y:Lw.Bytes},dZ x=dZ y↔x=y
 | [],[]=>by simp
 | [],_::_=>by simp
 | _::_,[]=>by simp
 | c::x,d::y=>by
  have ih:=kD (x:=x) (y:=y);constructor
  ·intro h;injection h with h1 h2
   injection h1 with h1
   rw[ih.mp h2,UInt8.toNat_inj.mp (i5 h1)]
  ·intro h;rw[h]
theorem tK (x y:Lw.Bytes):wH (dZ x) (dZ y)=decide (x=y):=by unfold wH;exact tM.mpr kD
theorem RU (xs:List V) (n:Nat):gb xs none (some (n:Int))=xs.take n:=by
 unfold gb;rw[HT.sP,HT.oR,xF,Nat.sub_zero];by_cases h:n≤xs.length
 ·rw[mr h]
 ·rw[DS Kf,tO,m7 Kf]
theorem L3 (xs:List V) (n:Nat):gb xs (some (n:Int)) none=xs.drop n:=by
 unfold gb;rw[HT.sP,HT.oR];by_cases h:n≤xs.length
 ·rw[mr h,m7 (by rw[et];omega)]
 ·rw[DS Kf,List.drop_length,xG Kf];simp
theorem tL (xs:List V) (a c:Nat):gb xs (some (a:Int)) (some (c:Int))=(xs.drop a).take (c-a):=by
 unfold gb;rw[HT.oR,HT.oR];by_cases h:a≤xs.length
 ·rw[mr h];by_cases h2:c≤xs.length
  ·rw[mr h2]
  ·rw[DS Kf,m7 (by rw[et];omega),m7 (by rw[et];omega)]
 ·rw[DS (show xs.length≤a by omega),List.drop_length,xG (show xs.length≤a by omega)];simp
theorem C9 (b:Lw.Bytes) (n:Nat):gb (dZ b) none (some (n:Int))=dZ (b.take n):=by rw[RU,←oH]
theorem xo (b:Lw.Bytes) (n:Nat):gb (dZ b) (some (n:Int)) none=dZ (b.drop n):=by rw[L3,←oK]
theorem G2 (b:Lw.Bytes) (a c:Nat):gb (dZ b) (some (a:Int)) (some (c:Int))=dZ ((b.drop a).take (c-a)):=by rw[tL,←oK,←oH]
theorem UT (b:Lw.Bytes):gb (dZ b) none (some 1)=dZ (b.take 1):=C9 b 1
theorem FG (b:Lw.Bytes):gb (dZ b) (some 1) none=dZ (b.drop 1):=xo b 1
theorem OU (b:Lw.Bytes):gb (dZ b) (some 2) none=dZ (b.drop 2):=xo b 2
theorem RV (b:Lw.Bytes):gb (dZ b) (some 1) (some 2)=dZ ((b.drop 1).take 1):=G2 b 1 2
theorem RW {b:Lw.Bytes} {e:Nat} (h:e<b.length):lB (dZ b) (e:Int)=some (.int ((b.getD e 0).toNat:Nat)):=RM (du (by rw[aF];omega))
theorem RX {b:Lw.Bytes} (h:¬wH (dZ b) []=true):b≠[]:=fun z=>h (by rw[z];rfl)
theorem at0 {b:Lw.Bytes} (h:¬wH (dZ b) []=true):lB (dZ b) 0=some (.int ((b.getD 0 0).toNat:Nat)):=RW (e:=0) (List.length_pos_iff.mpr (RX h))
theorem at1 {b:Lw.Bytes} (h:2≤b.length):lB (dZ b) 1=some (.int ((b.getD 1 0).toNat:Nat)):=RW (e:=1) Kf
theorem RY (b:Lw.Bytes):BF.QK b=(wH (dZ ((b.drop 1).take 1)) [V.int 43]||wH (dZ ((b.drop 1).take 1)) [V.int 45]):=by
 rw[show [V.int 43]=dZ [43] from rfl,show [V.int 45]=dZ [45] from rfl,tK,tK];rfl
theorem MW (x:Lw.Bytes):ly x (0:Int).toNat=(x.takeWhile Lw.isDigit).length:=by
 unfold ly;show 0+_=_;rw[lD];rfl
theorem G3 (b:Lw.Bytes):BF.uv b=(wH (dZ (BF.ko b)) []||(decide (3<(((dZ (BF.ko b)).length:Nat):Int))||decide (((ly (BF.ko b) (0:Int).toNat:Nat):Int)<(((dZ (BF.ko b)).length:Nat):Int)))):=by
 rw[show ([]:List V)=dZ [] from rfl,tK,MW,aF];unfold BF.uv;congr 2
 ·exact tM.mpr Kf
 ·exact tM.mpr Kf
theorem jk {x:Nat}:((!decide ((x:Int)=101))&&(!decide ((x:Int)=69)))=true↔x≠101∧x≠69:=by
 rw[cI];simp;omega
section
variable {P:Program} {w:World} {K:aP} {mg:Str→Option Value} {base:Heap} {C C2 C3:Addr}
def xp (K:aP) (C C3:Addr):Sp:=fun vs H Q E=>∃a b,vs=[.ref a]∧(bU K H a (dZ b))∧(b.length≤60)∧(∀e,BF.fY b=some e→Q (.int e) H)∧(BF.fY b=none→E (.ref C3) none H)
theorem i3:aD ["text","has_sign","digits","size"] ["text"] (ay (top 132)):=bz
theorem yp (ak:Ev K mg C C2 C3):Fp C3 P w K mg base "read_exponent" ["text"] 2 (xp K C C3):=by
 have T:=ak.T;refine QW (ak.df 84) i3 lp (lr fun f bw A outer s H Q E hr a b h=>?_);obtain⟨o1,hl,q⟩:=h;refine⟨_,ah (aS (b8 (jG hr.units) (pv 0) (dw (ae))) (aj (aq (al))) (aB)) (ah (aS (cy (PW.pt (kc (b8 Gx (ek aZ (pv 0) (al)) (aG T.Q4 rfl)) (ka (b8 Gx (ek aZ (pv 0) (al)) (aG T.Xq rfl)))))) (aj (qp ak.no rfl)) (aB)) (ah (sv 1 i3.nd (MJ (AR (iz (jG hr.units) (eV fW (pv 0) (dS (al)) (dS (al))) (dw (aa (aG T.aay rfl) (ae)))) (jh (iz (jG hr.units) (eV fW (pv 0) (dS (al)) (dS (al))) (dw (aa (aG T.Lj rfl) (ae)))))))) (ah (sv 2 i3.nd (wG (b9 (aQ (pv 1)) (eV fW (pv 0) (dS (al)) (i8)) (eV fW (pv 0) (dS (al)) (i8))))) (ah (aS (Ui (PW.pt (dj (b8 (jG hr.units) (pv 2) (dw (ae))) (dj (b8 eX (bW cx rfl T.iq PySem.boot_len (aa (pv 2) (ae))) (aG T.qU rfl)) (dQ (b8 jv (pf (kW ak) hr (aa (pv 2) (aa (al) (ae)))) (bW cx rfl T.iq PySem.boot_len (aa (pv 2) (ae))))))))) (aj (qp ak.no rfl)) (aB)) (ah (sv 3 i3.nd (pf (og ak) hr (aa (pv 2) (ae)))) (aj (aq (cY (b9 (b8 bp (ek aZ (pv 0) (al)) (aG T.Lj rfl)) (iB gn (pv 3)) (pv 3)))))))))),eG rfl (by show _≤sizeLine;decide) (fun l1 dC=>px rfl rfl (((ai dC)).seq (o1)) (bU.of (aL)) (by first | exact dN _ | exact dg _ | exact⟨[],rfl⟩ | exact⟨[_],rfl⟩ | exact⟨_,rfl⟩) (by first | exact dN _ | exact dg _ | exact⟨[],rfl⟩ | exact⟨[_],rfl⟩ | exact⟨_,rfl⟩) (bg rfl (aK (fun h1=>⟨(ai dC),?r1⟩) (fun h1=>⟨((!decide ((((b.getD 0 0).toNat:Nat):Int)=101))&&(!decide ((((b.getD 0 0).toNat:Nat):Int)=69))),bT rfl rfl rfl (((ai dC)).seq (o1)) (at0 h1) (ck rfl rfl rfl (aK (fun h3=>bT rfl rfl rfl (((ai dC)).seq (o1)) (at0 h1) (ck rfl rfl rfl ?d1)) (fun h3=>?d2))),aK (fun h2=>⟨(ai dC),?x1⟩) (fun h2=>⟨V.bl (BF.QK b),(fun H'=>aI _ H'),aW rfl rfl rfl (bG rfl (((ai dC)).seq (o1)) (fun l2 fk=>⟨(by show _≤sizeLine;decide),fun l3 iX=>px rfl rfl (bU.of (((ai iX) _ _ ((b4 aL (RV _)))))) (bU.of (aL)) (by first | exact dN _ | exact dg _ | exact⟨[],rfl⟩ | exact⟨[_],rfl⟩ | exact⟨_,rfl⟩) (by first | exact dN _ | exact dg _ | exact⟨[],rfl⟩ | exact⟨[_],rfl⟩ | exact⟨_,rfl⟩) (bg rfl (aK (fun h4=>⟨?d4,((ai fk)).trans (ai iX)⟩) (fun h4=>aW rfl rfl rfl (bG rfl (((ai iX)).seq (((ai fk)).seq (((ai dC)).seq (o1)))) (fun l4 j5=>⟨(by show _≤sizeLine;decide),fun l5 oB=>px rfl rfl (bU.of (((ai oB) _ _ ((b4 aL (RV _)))))) (bU.of (aL)) (by first | exact dN _ | exact dg _ | exact⟨[],rfl⟩ | exact⟨[_],rfl⟩ | exact⟨_,rfl⟩) (by first | exact dN _ | exact dg _ | exact⟨[],rfl⟩ | exact⟨[_],rfl⟩ | exact⟨_,rfl⟩) ⟨?d3,((((ai fk)).trans (ai iX)).trans (ai j5)).trans (ai oB)⟩⟩)))))⟩)),fun M6 m6=>⟨(fun l H'=>aI _ H'∧bU K H' l (dZ (BF.ko b))),aR rfl rfl (aK (fun h5=>br rfl rfl rfl ((m6).seq (((ai dC)).seq (o1))) (fun l7 Dc=>⟨_,rfl,(ai Dc),Q1 (bU.of ((b4 aL (OU _)))) ?d5⟩)) (fun h5=>br rfl rfl rfl ((m6).seq (((ai dC)).seq (o1))) (fun l8 Dd=>⟨_,rfl,(ai Dd),Q1 (bU.of ((b4 aL (FG _)))) ?d6⟩))),fun l9 M9 ⟨m9,y9⟩=>⟨(BF.uv b),(fun H'=>aI _ H'),eG rfl (by show _≤sizeLine;decide) (fun l10 De=>px rfl rfl (((ai De)).seq (y9)) (bU.of (aL)) (by first | exact dN _ | exact dg _ | exact⟨[],rfl⟩ | exact⟨[_],rfl⟩ | exact⟨_,rfl⟩) (by first | exact dN _ | exact dg _ | exact⟨[],rfl⟩ | exact⟨[_],rfl⟩ | exact⟨_,rfl⟩) (bg rfl (aK (fun h7=>⟨?d7,(ai De)⟩) (fun h7=>bP rfl rfl (.inl (((ai De)).seq (y9))) (ck rfl rfl rfl (aK (fun h8=>⟨?d8,(ai De)⟩) (fun h8=>bg rfl (jr rfl (((ai De)).seq (y9)) ?p1 (bP rfl rfl (.inl (((ai De)).seq (y9))) (ck rfl rfl rfl ⟨?d9,(ai De)⟩)))))))))),fun M11 UU=>aK (fun h6=>⟨((((ai dC)).trans m6).trans m9).trans UU,?x2⟩) (fun h6=>eJ rfl rfl ((UU).seq (y9)) ?p2 ⟨.int (if (b.getD 1 0).toNat=45 then -((Lw.numberOf (BF.ko b):Nat):Int) else ((Lw.numberOf (BF.ko b):Nat):Int)),bT rfl rfl rfl ((UU).seq ((m9).seq ((m6).seq (((ai dC)).seq (o1))))) (at1 (BF.BZ h6).1) (ck rfl rfl rfl (aK (fun h9=>aR rfl rfl ?IV) (fun h9=>bg rfl ?RC))),⟨((((ai dC)).trans m6).trans m9).trans UU,?r2⟩⟩)⟩⟩⟩)⟩))))⟩
 case r1=>exact q.1 0 (by rw[show b=[] from Classical.byContradiction fun z=>absurd (kD.mp (show dZ b=dZ [] from ft.mp h1)) z];rfl)
 all_goals have iW:=RX h1
 case d1=>exact⟨by rw[h3];rfl,rfl⟩
 case d2=>exact⟨by rw[aV _ |>.mp h3];rfl,rfl⟩
 case x1=>exact q.2 (by rw[BF.nY iW,ao (jk.mp h2)])
 all_goals have tS:=fun z=>h2 (jk.mpr z)
 case d3=>rw[RY,aV _ |>.mp h4];rfl
 case d4=>rw[RY,h4];rfl
 case d5=>unfold BF.ko;rw[ao h5]
 case d6=>unfold BF.ko;rw[ag h5]
 case d7=>rw[G3,h7];rfl
 case d8=>rw[G3,aV _ |>.mp h7,h8];rfl
 case d9=>rw[G3,aV _ |>.mp h7,aV _ |>.mp h8];rfl
 case p1=>show (0:Int)≤0;decide
 case x2=>exact q.2 (by rw[BF.nY iW,ag tS,ao h6])
 all_goals have bl:=BF.BZ h6
 case p2=>exact⟨bl.2.1,Kf⟩
 case IV=>exact⟨by rw[ao (by have:=dt h9;omega)],rfl⟩
 case RC=>exact⟨by rw[ag (by have:=df h9;omega)],rfl⟩
 case r2=>exact q.1 _ (by rw[BF.nY iW,ag tS,ag h6])
end
theorem XQ (b:Lw.Bytes) (e:Nat):gb (dZ b) (some (e:Int)) (some ((e:Int)+1))=dZ ((b.drop e).take 1):=by
 have:=G2 b e (e+1);rw[show e+1-e=1 by omega] at this;exact this
theorem L4 (b:Lw.Bytes) (e:Nat):gb (dZ b) (some ((e:Int)+1)) (some ((ly b ((e:Int)+1).toNat:Nat):Int))=dZ ((b.drop (e+1)).takeWhile Lw.isDigit):=by
 have:=G2 b (e+1) (ly b ((e:Int)+1).toNat);have h2:ly b ((e:Int)+1).toNat-(e+1)=((b.drop (e+1)).takeWhile Lw.isDigit).length:=by
  rw[show ((e:Int)+1).toNat=e+1 by omega];unfold ly;omega
 rw[h2,BF.rO] at this;exact this
theorem MX (x y:Lw.Bytes):dZ x++dZ y=dZ (x++y):=(yF).symm
theorem xq {n:Nat} (h:n≤1100):Sm 4400 ((10:Int)^n):=by
 unfold Sm;rw[JV];show 10^n<_;have a:(10:Nat)^n≤10^1100:=fb J9 h;have c:(16:Nat)^1100=2^4400:=by rw[show (16:Nat)=2^4 from rfl,←DN]
 have d:(10:Nat)^1100<16^1100:=Nat.pow_lt_pow_left J9 J9;omega
theorem XR (b:Lw.Bytes):ly b (0:Int).toNat=(BF.wB b).length:=MW b
theorem XS (b:Lw.Bytes):b.take (BF.wB b).length=BF.wB b:=BF.rO _ b
theorem XT (b:Lw.Bytes):(b.drop ((BF.wB b).length+1)).takeWhile Lw.isDigit=BF.fB b:=rfl
theorem UW (b:Lw.Bytes):ly b (((BF.wB b).length:Int)+1).toNat=(BF.wB b).length+1+(BF.fB b).length:=by
 rw[show (((BF.wB b).length:Int)+1).toNat=(BF.wB b).length+1 by omega];rfl
theorem G4 {p:UInt8→Bool} {x:Lw.Bytes} {c:UInt8} (h:c∈x.takeWhile p):p c=true:=by
 induction x with
 | nil=>cases h
 | cons d x ih =>
  rw[sO] at h;split at h
  ·next hd =>
   rcases cO.mp h with rfl | h
   ·exact hd
   ·exact ih h
  ·cases h
theorem RZ {c:UInt8} (h:Lw.isDigit c=true):48≤c.toNat:=by
 unfold Lw.isDigit at h;rw[cI,bj] at h;exact h.1
theorem aaQ (b:Lw.Bytes):(BF.wB b).length≤b.length:=(List.takeWhile_sublist _).length_le
theorem aaR (b:Lw.Bytes):(BF.fB b).length≤b.length:=by
 have:=(List.takeWhile_sublist Lw.isDigit (l:=b.drop ((BF.wB b).length+1))).length_le;rw[et] at this;unfold BF.fB;omega
theorem R0 {b:Lw.Bytes} {z:Int} (h:b.length≤120) (h0:0≤z) (h1:z≤1100):RB ((Lw.numberOf b:Nat)*10^z.toNat) 1 0 :=
 ⟨⟨fE Kf (bo (Ak J9)),J9⟩,5400,64,(Sm.mul (xh h) (xq Kf)),b6 J9 J9,J9,J9,J9⟩
theorem MY {b:Lw.Bytes} {z:Int} (h:b.length≤120) (h1:z≤1100):RB (Lw.numberOf b:Nat) (10^z.toNat) 0 :=
 ⟨⟨Kf,Ak J9⟩,1000,4400,xh h,xq Kf,J9,J9,J9⟩
section
variable {P:Program} {w:World} {K:aP} {mg:Str→Option Value} {base:Heap} {C C2 C3:Addr}
def zZ (K:aP) (C C3:Addr):Sp:=fun vs H Q E=>∃k m neg a b,vs=[.int k,.int m,.bl neg,.ref a]∧(bU K H a (dZ b))∧(VK k∧VM m∧b.length≤60)∧(∀p,BF.gQ b=some p→Q (.int (BF.kn (BF.fm k) (BF.md m) neg p.1 p.2)) H)∧(BF.gQ b=none→E (.ref C3) none H)
theorem fe:aD ["kind","mode","negative","text","end","digits","fraction","start","n","exponent"] ["kind","mode","negative","text"] (ay (top 131)):=bz
set_option maxHeartbeats 4000000 in
theorem Dg (ak:Ev K mg C C2 C3):Fp C3 P w K mg base "read_digits" ["kind","mode","negative","text"] 4 (zZ K C C3):=by
 have T:=ak.T;refine QW (ak.df 83) fe B0 (B3 fun f bw A outer s H Q E hr k m neg a b h=>?_);obtain⟨o1,⟨hk,hm,hl⟩,q⟩:=h;refine⟨_,ah (sv 4 fe.nd (pf (kW ak) hr (aa (pv 3) (aa (al) (ae))))) (ah (sv 5 fe.nd (eV fW (pv 3) (i8) (dS (pv 4)))) (ah (sv 6 fe.nd (dw (ae))) (ah (aS (b8 (jG hr.units) (eV fW (pv 3) (dS (pv 4)) (dS (aH bX (pv 4) (al)))) (dw (aa (aG T.Xp rfl) (ae)))) (ah (sv 7 fe.nd (aH bX (pv 4) (al))) (ah (sv 4 fe.nd (pf (kW ak) hr (aa (pv 3) (aa (pv 7) (ae))))) (ah (sv 6 fe.nd (eV fW (pv 3) (dS (pv 7)) (dS (pv 4)))) (aj (aS (b8 (jG hr.units) (pv 6) (dw (ae))) (aj (qp ak.no rfl)) (aB)))))) (aB)) (ah (aS (b8 (jG hr.units) (pv 5) (dw (ae))) (aj (qp ak.no rfl)) (aB)) (ah (sv 8 fe.nd (pf (og ak) hr (aa (aH FU (pv 5) (pv 6)) (ae)))) (ah (sv 9 fe.nd (aH dm (Xw (yp ak) hr QV (aa (eV fW (pv 3) (dS (pv 4)) (i8)) (ae))) (bW cx rfl T.iq PySem.boot_len (aa (pv 6) (ae))))) (ah (aS (b8 mv (pv 9) (al)) (aj (aq (pf (mQ ak) hr (aa (pv 0) (aa (pv 1) (aa (pv 2) (aa (aH cK (pv 8) (pf (qK ak) hr (aa (pv 9) (ae)))) (aa (al) (aa (al) (ae)))))))))) (aB)) (aj (aq (pf (mQ ak) hr (aa (pv 0) (aa (pv 1) (aa (pv 2) (aa (pv 8) (aa (pf (qK ak) hr (aa (iB gn (pv 9)) (ae))) (aa (al) (ae))))))))))))))))),bg rfl (jr rfl (o1) ?p1 (aW rfl rfl rfl (bG rfl (o1) (fun l1 dC=>⟨(by show _≤sizeLine;decide),fun l2 fk=>ax rfl rfl rfl rfl (ck rfl rfl rfl (bG rfl (((ai fk)).seq (((ai dC)).seq (o1))) (fun l3 iX=>⟨(by show _≤sizeLine;decide),fun l4 j5=>px rfl rfl (bU.of (((ai j5) _ _ ((b4 aL (XQ _ _)))))) (bU.of (aL)) (by first | exact dN _ | exact dg _ | exact⟨[],rfl⟩ | exact⟨[_],rfl⟩ | exact⟨_,rfl⟩) (by first | exact dN _ | exact dg _ | exact⟨[],rfl⟩ | exact⟨[_],rfl⟩ | exact⟨_,rfl⟩) (bg rfl (aK (fun h1=>bP rfl rfl rfl (aR rfl rfl (jr rfl (((ai j5)).seq (((ai iX)).seq (((ai fk)).seq (((ai dC)).seq (o1))))) ?p2 (ax rfl rfl rfl rfl (bP rfl rfl (((ai j5)).seq (((ai iX)).seq (((ai fk)).seq (((ai dC)).seq (o1))))) (fun l5 oB=>eG rfl (by show _≤sizeLine;decide) (fun l6 Dh=>px rfl rfl (bU.of (((ai Dh) _ _ ((b4 aL (L4 _ _)))))) (bU.of ((b4 (ys:=dZ []) aL rfl))) (by first | exact dN _ | exact dg _ | exact⟨[],rfl⟩ | exact⟨[_],rfl⟩ | exact⟨_,rfl⟩) (by first | exact dN _ | exact dg _ | exact⟨[],rfl⟩ | exact⟨[_],rfl⟩ | exact⟨_,rfl⟩) (bg rfl (aK (fun h2=>⟨((((((ai dC)).trans (ai fk)).trans (ai iX)).trans (ai j5)).trans (ai oB)).trans (ai Dh),?x1⟩) (fun h2=>eG rfl (by show _≤sizeLine;decide) (fun l7 Dc=>px rfl rfl (bU.of (((ai Dc) _ _ (((ai Dh) _ _ (((ai oB) _ _ (((ai j5) _ _ (((ai iX) _ _ (((ai fk) _ _ ((b4 aL (C9 _ _)))))))))))))))) (bU.of ((b4 (ys:=dZ []) aL rfl))) (by first | exact dN _ | exact dg _ | exact⟨[],rfl⟩ | exact⟨[_],rfl⟩ | exact⟨_,rfl⟩) (by first | exact dN _ | exact dg _ | exact⟨[],rfl⟩ | exact⟨[_],rfl⟩ | exact⟨_,rfl⟩) (bg rfl (aK (fun h3=>⟨(((((((ai dC)).trans (ai fk)).trans (ai iX)).trans (ai j5)).trans (ai oB)).trans (ai Dh)).trans (ai Dc),?x2⟩) (fun h3=>aR rfl rfl (il rfl rfl (((ai Dc) _ _ (((ai Dh) _ _ (((ai oB) _ _ (((ai j5) _ _ (((ai iX) _ _ (((ai fk) _ _ ((b4 aL (C9 _ _))))))))))))))) (((ai Dc) _ _ (((ai Dh) _ _ ((b4 aL (L4 _ _))))))) ⟨?n1,fun l8 Dd=>bJ rfl (bU.of ((b4 aL (MX _ _)))) ?p3 (aW rfl rfl rfl (bG rfl (((ai Dd)).seq (((ai Dc)).seq (((ai Dh)).seq (((ai oB)).seq (((ai j5)).seq (((ai iX)).seq (((ai fk)).seq (((ai dC)).seq (o1))))))))) (fun l9 UX=>bJ rfl (bU.of ((b4 aL (xo _ _)))) ?p4 ⟨fun z10 rm=>bP rfl rfl (.inl (bU.of (((ai UX) _ _ (((ai Dd) _ _ (((ai Dc) _ _ (((ai Dh) _ _ ((b4 aL (L4 _ _))))))))))))) (bG rfl rfl (aE rfl rfl rfl rfl (aK (fun h4=>ax rfl rfl rfl rfl (cP rfl rfl ?p5 (bJ rfl rfl ?c1 ⟨_,_,_,_,_,_,rfl,?p6,⟨(((((((((ai dC)).trans (ai fk)).trans (ai iX)).trans (ai j5)).trans (ai oB)).trans (ai Dh)).trans (ai Dc)).trans (ai Dd)).trans (ai UX),?r1⟩⟩))) (fun h4=>ax rfl rfl rfl rfl (aR rfl rfl (eG rfl ?p7 ⟨_,_,_,_,_,_,rfl,?p8,⟨(((((((((ai dC)).trans (ai fk)).trans (ai iX)).trans (ai j5)).trans (ai oB)).trans (ai Dh)).trans (ai Dc)).trans (ai Dd)).trans (ai UX),?r2⟩⟩)))))),fun rm=>⟨(((((((((ai dC)).trans (ai fk)).trans (ai iX)).trans (ai j5)).trans (ai oB)).trans (ai Dh)).trans (ai Dc)).trans (ai Dd)).trans (ai UX),?x3⟩⟩)))⟩))))))))))))))) (fun h1=>eG rfl (by show _≤sizeLine;decide) (fun l11 pH=>px rfl rfl (bU.of (((ai pH) _ _ (((ai j5) _ _ (((ai iX) _ _ (((ai fk) _ _ ((b4 aL (C9 _ _)))))))))))) (bU.of ((b4 (ys:=dZ []) aL rfl))) (by first | exact dN _ | exact dg _ | exact⟨[],rfl⟩ | exact⟨[_],rfl⟩ | exact⟨_,rfl⟩) (by first | exact dN _ | exact dg _ | exact⟨[],rfl⟩ | exact⟨[_],rfl⟩ | exact⟨_,rfl⟩) (bg rfl (aK (fun h5=>⟨(((((ai dC)).trans (ai fk)).trans (ai iX)).trans (ai j5)).trans (ai pH),?x4⟩) (fun h5=>aR rfl rfl (il rfl rfl (((ai pH) _ _ (((ai j5) _ _ (((ai iX) _ _ (((ai fk) _ _ ((b4 aL (C9 _ _))))))))))) (((ai pH) _ _ (((ai j5) _ _ (((ai iX) _ _ ((b4 (ys:=dZ []) aL rfl)))))))) ⟨?n2,fun l12 JL=>bJ rfl (bU.of ((b4 aL (MX _ _)))) ?p9 (aW rfl rfl rfl (bG rfl (((ai JL)).seq (((ai pH)).seq (((ai j5)).seq (((ai iX)).seq (((ai fk)).seq (((ai dC)).seq (o1))))))) (fun l13 MZ=>bJ rfl (bU.of ((b4 aL (xo _ _)))) ?Ci ⟨fun so JM=>bP rfl rfl (.inl (bU.of (((ai MZ) _ _ (((ai JL) _ _ (((ai pH) _ _ (((ai j5) _ _ (((ai iX) _ _ ((b4 (ys:=dZ []) aL rfl)))))))))))))) (bG rfl rfl (aE rfl rfl rfl rfl (aK (fun h6=>ax rfl rfl rfl rfl (cP rfl rfl ?Ec (bJ rfl rfl ?c2 ⟨_,_,_,_,_,_,rfl,?Cy,⟨(((((((ai dC)).trans (ai fk)).trans (ai iX)).trans (ai j5)).trans (ai pH)).trans (ai JL)).trans (ai MZ),?r3⟩⟩))) (fun h6=>ax rfl rfl rfl rfl (aR rfl rfl (eG rfl ?LN ⟨_,_,_,_,_,_,rfl,?Jq,⟨(((((((ai dC)).trans (ai fk)).trans (ai iX)).trans (ai j5)).trans (ai pH)).trans (ai JL)).trans (ai MZ),?r4⟩⟩)))))),fun JM=>⟨(((((((ai dC)).trans (ai fk)).trans (ai iX)).trans (ai j5)).trans (ai pH)).trans (ai JL)).trans (ai MZ),?x5⟩⟩)))⟩))))))))⟩)))⟩))))⟩
 all_goals have wl:=aaQ b
 all_goals have fl:=aaR b
 all_goals try simp only[XR,XS,XT,UW] at *
 case p1=>show (0:Int)≤0;decide
 case p2=>show (0:Int)≤_;omega
 case x1 =>
  have hp:=kD.mp (show dZ ((b.drop (BF.wB b).length).take 1)=dZ [46] from ft.mp h1);exact q.2 (by rw[BF.mO hp,ao (kD.mp (ft.mp h2))])
 case x2 =>
  have hp:=kD.mp (show dZ ((b.drop (BF.wB b).length).take 1)=dZ [46] from ft.mp h1);have hf:¬BF.fB b=[]:=fun z=>h2 (ft.mpr (by rw[z]));exact q.2 (by rw[BF.mO hp,ag hf,ao (kD.mp (ft.mp h3))])
 case n1=>rw[aF,aF];unfold sizeLine;omega
 case p3 =>
  refine⟨fun c hc=>RZ ?_,by rw[cT];omega⟩;rcases pJ.mp hc with hc | hc
  ·exact G4 hc
  ·exact G4 hc
 case p4=>rw[et];omega
 case x3 =>
  have hp:=kD.mp (show dZ ((b.drop (BF.wB b).length).take 1)=dZ [46] from ft.mp h1);have hf:¬BF.fB b=[]:=fun z=>h2 (ft.mpr (by rw[z]));have hw:¬BF.wB b=[]:=fun z=>h3 (ft.mpr (by rw[z]));exact q.2 (by rw[BF.mO hp,ag hf,ag hw,rm];rfl)
 case p5=>have:=BF.kR rm;have:=dt h4;rw[aF] at *;exact⟨Kf,Kf⟩
 case c1 =>
  have:=BF.kR rm;exact⟨(xh (by rw[cT];omega)).mono J9,(xq (by rw[aF];omega)).mono J9⟩
 case p6 =>
  have:=BF.kR rm;have:=dt h4;exact⟨hk,hm,R0 (by rw[cT];omega) Kf (by rw[aF];omega)⟩
 case r1 =>
  have hp:=kD.mp (show dZ ((b.drop (BF.wB b).length).take 1)=dZ [46] from ft.mp h1);have hf:¬BF.fB b=[]:=fun z=>h2 (ft.mpr (by rw[z]));have hw:¬BF.wB b=[]:=fun z=>h3 (ft.mpr (by rw[z]));have R4:=dt h4;rw[aF] at R4;refine bD (q.1 (Lw.numberOf (BF.wB b++BF.fB b),z10-((BF.fB b).length:Int)) (by rw[BF.mO hp,ag hf,ag hw,rm];rfl)) ?_;unfold BF.kn;rw[ao R4,aF]
 case p7=>have:=BF.kR rm;have:=df h4;rw[aF] at *;exact⟨Kf,Kf⟩
 case p8 =>
  have:=BF.kR rm;exact⟨hk,hm,MY (by rw[cT];omega) (by rw[aF];omega)⟩
 case r2 =>
  have hp:=kD.mp (show dZ ((b.drop (BF.wB b).length).take 1)=dZ [46] from ft.mp h1);have hf:¬BF.fB b=[]:=fun z=>h2 (ft.mpr (by rw[z]));have hw:¬BF.wB b=[]:=fun z=>h3 (ft.mpr (by rw[z]));have R4:=df h4;rw[aF] at R4;refine bD (q.1 (Lw.numberOf (BF.wB b++BF.fB b),z10-((BF.fB b).length:Int)) (by rw[BF.mO hp,ag hf,ag hw,rm];rfl)) ?_;unfold BF.kn;rw[ag R4,aF]
 all_goals have hp:¬(b.drop (BF.wB b).length).take 1=[46]:=fun z=>h1 (ft.mpr (by rw[z];rfl))
 case x4=>exact q.2 (by rw[BF.qm hp,ao (kD.mp (ft.mp h5))])
 all_goals have hw:¬BF.wB b=[]:=fun z=>h5 (ft.mpr (by rw[z]))
 case n2=>rw[aF];show _+0≤_;unfold sizeLine;omega
 case p9 =>
  rw[fV];exact⟨fun c hc=>RZ (G4 hc),Kf⟩
 case Ci=>rw[et];omega
 case x5=>exact q.2 (by rw[BF.qm hp,ag hw,JM];rfl)
 all_goals have eb:=BF.kR JM
 case Ec=>have:=dt h6;exact⟨this,by show so-0≤_;omega⟩
 case c2=>exact⟨(xh (by rw[fV];omega)).mono J9,(xq (by show (so-0).toNat≤_;omega)).mono J9⟩
 case Cy=>have:=dt h6;exact⟨hk,hm,R0 (by rw[fV];omega) this (by show so-0≤_;omega)⟩
 case r3 =>
  have R5:=dt h6;refine bD (q.1 (Lw.numberOf (BF.wB b),so) (by rw[BF.qm hp,ag hw,JM];rfl)) ?_;have e0:so-(((dZ []).length:Nat):Int)=so:=by show so-0=so;omega
  rw[e0] at R5 ⊢;unfold BF.kn;rw[ao R5,fV]
 case LN=>have:=df h6;exact⟨by show 0≤-(so-0);have:¬0≤so-0:=this;omega,by show -(so-0)≤_;omega⟩
 case Jq=>exact⟨hk,hm,MY (by rw[fV];omega) (by show -(so-0)≤_;omega)⟩
 case r4 =>
  have R5:=df h6;refine bD (q.1 (Lw.numberOf (BF.wB b),so) (by rw[BF.qm hp,ag hw,JM];rfl)) ?_;have e0:so-(((dZ []).length:Nat):Int)=so:=by show so-0=so;omega
  rw[e0] at R5 ⊢;unfold BF.kn;rw[ag R5,fV]
end
theorem M0 (b:Lw.Bytes):wH (dZ b) ((Str.ofString "nan").cps.toList.map fun (c:Nat)=>V.int c)=decide (b=Lw.NAN):=by
 rw[show (Str.ofString "nan").cps.toList=[110,97,110] by decide +kernel];exact tK b Lw.NAN
theorem UY (b:Lw.Bytes):wH (dZ b) ((Str.ofString "inf").cps.toList.map fun (c:Nat)=>V.int c)=decide (b=Lw.INF):=by
 rw[show (Str.ofString "inf").cps.toList=[105,110,102] by decide +kernel];exact tK b Lw.INF
theorem AK (b:Lw.Bytes):wH (dZ (b.take 1)) [V.int 45]=decide (b.take 1=[45]):=tK (b.take 1) [45]
def rB (b:Lw.Bytes):Lw.Bytes:=if decide (b.take 1=[45])=true then b.drop 1 else b
section
variable {P:Program} {w:World} {K:aP} {mg:Str→Option Value} {base:Heap} {C C2 C3:Addr}
def R6 (K:aP) (C C3:Addr):Sp:=fun vs H Q E=>∃k m a b,vs=[.int k,.int m,.ref a]∧(bU K H a (dZ b))∧(VK k∧VM m∧b.length≤60)∧(∀z,BF.jm (BF.fm k) (BF.md m) b=some z→Q (.int z) H)∧(BF.jm (BF.fm k) (BF.md m) b=none→E (.ref C3) none H)
theorem Di:aD ["kind","mode","text","negative","size"] ["kind","mode","text"] (ay (top 130)):=bz
theorem UZ (ak:Ev K mg C C2 C3):Fp C3 P w K mg base "read" ["kind","mode","text"] 5 (R6 K C C3):=by
 have T:=ak.T;refine QW (ak.df 82) Di qS (qT fun f bw A outer s H Q E hr k m a b h=>?_);obtain⟨o1,⟨hk,hm,hl⟩,q⟩:=h;refine⟨_,ah (aS (b8 (jG hr.units) (pv 2) (pf (jM ak) hr (aa (nE) (ae)))) (aj (aq (pf (fu ak) hr (aa (pv 0) (ae))))) (aB)) (ah (sv 3 Di.nd (iz (jG hr.units) (eV fW (pv 2) (i8) (dS (al))) (dw (aa (aG T.Lj rfl) (ae))))) (ah (sv 4 Di.nd (wG (b9 (aQ (pv 3)) (eV fW (pv 2) (dS (al)) (i8)) (pv 2)))) (ah (aS (b8 (jG hr.units) (pv 4) (pf (jM ak) hr (aa (nE) (ae)))) (aj (aq (pf (fD ak) hr (aa (pv 0) (aa (pv 3) (aa (pf (cF ak) hr (aa (pv 0) (ae))) (ae))))))) (aB)) (aj (aq (Xw (Dg ak) hr QV (aa (pv 0) (aa (pv 1) (aa (pv 3) (aa (pv 4) (ae))))))))))),cP rfl rfl ?p1 (fun a1 H1 s1 x1=>px rfl rfl ((s1).seq (o1)) (bU.of (x1)) (by first | exact dN _ | exact dg _ | exact⟨[],rfl⟩ | exact⟨[_],rfl⟩ | exact⟨_,rfl⟩) (by first | exact dN _ | exact dg _ | exact⟨[],rfl⟩ | exact⟨[_],rfl⟩ | exact⟨_,rfl⟩) (bg rfl (aK (fun h1=>cP rfl rfl ?p2 ⟨s1,?r1⟩) (fun h1=>br rfl rfl rfl ((s1).seq (o1)) (fun l2 fk=>⟨(by show _≤sizeLine;decide),fun l3 iX=>px rfl rfl (bU.of (((ai iX) _ _ ((b4 aL (UT _)))))) (bU.of (aL)) (by first | exact dN _ | exact dg _ | exact⟨[],rfl⟩ | exact⟨[_],rfl⟩ | exact⟨_,rfl⟩) (by first | exact dN _ | exact dg _ | exact⟨[],rfl⟩ | exact⟨[_],rfl⟩ | exact⟨_,rfl⟩) ⟨(fun l H'=>aI _ H'∧bU K H' l (dZ (rB b))),aR rfl rfl (aK (fun h2=>br rfl rfl rfl (((ai iX)).seq (((ai fk)).seq ((s1).seq (o1)))) (fun l4 j5=>⟨_,rfl,(ai j5),Q1 (bU.of ((b4 aL (FG _)))) ?d1⟩)) (fun h2=>bg rfl ⟨_,rfl,aI.refl _,Q1 (((ai iX)).seq (((ai fk)).seq ((s1).seq (o1)))) ?d2⟩)),fun l5 M5 ⟨m5,y5⟩=>cP rfl rfl ?p3 (fun a6 H6 s6 x6=>px rfl rfl ((s6).seq (y5)) (bU.of (x6)) (by first | exact dN _ | exact dg _ | exact⟨[],rfl⟩ | exact⟨[_],rfl⟩ | exact⟨_,rfl⟩) (by first | exact dN _ | exact dg _ | exact⟨[],rfl⟩ | exact⟨[_],rfl⟩ | exact⟨_,rfl⟩) (bg rfl (aK (fun h3=>aW rfl rfl rfl (eG rfl ?p4 (eZ rfl ?p5 ⟨((((s1).trans (ai fk)).trans (ai iX)).trans m5).trans s6,?r2⟩))) (fun h3=>ax rfl rfl rfl rfl (jY rfl ((s6).seq (y5)) ⟨?p6,⟨fun z7 XU=>⟨((((s1).trans (ai fk)).trans (ai iX)).trans m5).trans s6,?r3⟩,fun XU=>⟨((((s1).trans (ai fk)).trans (ai iX)).trans m5).trans s6,?x1⟩⟩⟩)))))⟩⟩)))))⟩
 case p1=>decide +kernel
 case p2=>exact hk
 case r1 =>
  rw[M0] at h1;exact q.1 _ (by unfold BF.jm;rw[ao (dt h1)])
 all_goals rw[M0] at h1
 all_goals have eB:BF.jm (BF.fm k) (BF.md m) b=if rB b=Lw.INF then some (BF.ws (BF.fm k) (decide (b.take 1=[45])) (BF.bE (BF.fm k))) else (BF.gQ (rB b)).map fun p=>BF.kn (BF.fm k) (BF.md m) (decide (b.take 1=[45])) p.1 p.2:=by unfold BF.jm;rw[ag (df h1)];rfl
 case d1=>rw[AK] at h2;unfold rB;rw[ao h2]
 case d2=>rw[AK] at h2;unfold rB;rw[ag h2]
 case p3=>decide +kernel
 case p4=>exact hk
 case p5=>exact hk
 all_goals try rw[UY] at h3
 case r2=>exact bD (q.1 _ (by rw[eB,ao (dt h3)])) (by rw[AK])
 case p6 =>
  refine⟨hk,hm,?_⟩;unfold rB;split
  ·rw[et];omega
  ·exact hl
 case r3=>exact bD (q.1 _ (by rw[eB,ag (df h3),XU];rfl)) (by rw[AK])
 case x1=>exact q.2 (by rw[eB,ag (df h3),XU];rfl)
end
abbrev fg (l:List Int):List V:=l.map V.int
structure fQ (K:aP) (H:Hp) (a:Addr) (as:List Addr) (rs:List (List Int)):Prop where
 sq:bU K H a (as.map V.ref)
 len:as.length=rs.length
 row:∀(i:Nat) (x:Addr) (r:List Int),as[i]?=some x→rs[i]?=some r→bU K H x (fg r)
theorem fQ.same {K:aP} {H H':Hp} {a:Addr} {as:List Addr} {rs:List (List Int)} (h:fQ K H a as rs) (s:aI H H'):fQ K H' a as rs:=⟨s.seq h.sq,h.len,fun i x r e1 e2=>s.seq (h.row i x r e1 e2)⟩
def kH (k:Int) (rs:List (List Int)):Bool:=decide (k≤3)&&(rs.map fun r=>decide ((r.length:Int)=BF.nb (BF.fm k))).all id
theorem Dj {k:Int} {rs:List (List Int)}:kH k rs=true↔k≤3∧∀r∈rs,(r.length:Int)=BF.nb (BF.fm k):=by
 unfold kH;rw[cI,bj,List.all_map,nq];simp
theorem jZ {k:Int} {r:List Int}:kH k [r]=true↔k≤3∧(r.length:Int)=BF.nb (BF.fm k):=by rw[Dj];simp
theorem j0 {k:Int} {r1 r2:List Int}:kH k [r1,r2]=true↔k≤3∧(r1.length:Int)=BF.nb (BF.fm k)∧(r2.length:Int)=BF.nb (BF.fm k):=by rw[Dj];simp
theorem kI {k:Int} {r1 r2 r3:List Int}:kH k [r1,r2,r3]=true↔k≤3∧(r1.length:Int)=BF.nb (BF.fm k)∧(r2.length:Int)=BF.nb (BF.fm k)∧(r3.length:Int)=BF.nb (BF.fm k):=by rw[Dj];simp
theorem mX {k:Int} {r:List Int} (h:(r.length:Int)=BF.nb (BF.fm k)):r.length≤8:=by have:=BF.gz k;omega
theorem gE {k:Int} {r:List Int} (h0:0≤k) (h3:k≤3) (hb:BF.cS r) (h:(r.length:Int)=BF.nb (BF.fm k)):VB k (BF.cj r):=by
 have a:=BF.ph k hb h;have b:=(BF.gR hb).1;refine⟨⟨h0,h3⟩,b,?_⟩;rw[←BF.dX];omega
theorem Dk {X:Cx} {K:aP} (h:X.K=K):pQ X (.builtin "len") (fun xs H Q=>∃p ys,xs=[V.ref p]∧(bU K H p ys∨j3 K H p ys)∧Q (V.int ys.length) H):=by subst h;exact cx
theorem OV {X:Cx} {K:aP} (h:X.K=K):SV X (Vn K):=by subst h;exact fW
section
variable {P:Program} {w:World} {K:aP} {mg:Str→Option Value} {base:Heap} {C C2 C3:Addr}
def JN (K:aP) (C:Addr):Sp:=fun vs H Q _=>∃k a as rs,vs=[.int k,.ref a]∧(fQ K H a as rs)∧(0≤k∧as.length≤3)∧Q (.bl (kH k rs)) H
theorem sr:aD ["kind","rows","row"] ["kind","rows"] (ay (top 148)):=bz
theorem iH (ak:Ev K mg C C2 C3):cw P w K mg base "all_fit" ["kind","rows"] 2 (JN K C):=by
 have T:=ak.T;refine bc (ak.df 91) sr qS (qT fun f bw A outer s H Q E hr k a as rs h=>?_);obtain⟨o1,⟨h0,ha3⟩,q⟩:=h;refine⟨_,aj (aq (MJ (lN (iz AX (pv 0) (aG T.kS rfl)) (jh (bW (S5 rfl) rfl T.Xs boot_all (aa (uM rfl sr.nd (oO (pv 1)) (own:=[("row",2)]) (jj rfl) (fun _ _ _ _ _=>eK (i:=2) sr.nd rfl (Or.inl rfl)) (fun _ _ _ _ _=>kf) (fun _ _ _ _ _=>iz bp (bW (Dk (K:=K) rfl) rfl T.iq PySem.boot_len (aa (pv 2) (ae))) (pf (jC ak) hr (aa (pv 0) (ae))))) (ae))))))),⟨V.bl (kH k rs),(fun H'=>aI _ H'),aE rfl rfl rfl rfl (aK (fun h1=>cP rfl rfl ⟨_,((o1)).sq⟩ (fun D1 yl=>?k1)) (fun h1=>⟨?d2,aI.refl _⟩)),fun M2 m2=>⟨m2,?r1⟩⟩⟩
 case d2=>unfold kH;rw[aV _ |>.mp h1];rfl
 case k1 =>
  have k3:=dt h1;have ol:=o1.len;refine ma rs.length (by unfold sizeLine;omega) yl (fun i v _=>∃r,rs[i]?=some r∧v=.bl (decide ((r.length:Int)=BF.nb (BF.fm k)))) (fun _ _ _ _ _ e=>e) (fun _ _ _ _ _ _ e=>e) ?_ ?_
  ·intro i Hi Kx hi si hK;have xa:as[i]?=some (as[i]'Kf):=bI Kf;have xb:rs[i]?=some (rs[i]'hi):=bI hi;refine⟨⟨_,_,si.seq o1.sq,by rw[aT,xa];rfl⟩,?_⟩;rintro v H2 ⟨rfl,hv⟩;have ex:=hv _ (si.seq o1.sq);rw[aT,xa] at ex;have xr:=o1.row i _ _ xa xb;generalize as[i]'Kf=x at *;generalize rs[i]'hi=r at *;obtain rfl:V.ref x=v:=bM ex;refine⟨rfl,aE rfl rfl (.inl ((si).seq (xr))) rfl (eG rfl ?p1 (bG rfl rfl ?e1))⟩
   case p1=>exact⟨h0,k3⟩
   case e1=>exact hK _ _ (aI.refl _) ⟨r,xb,by rw[aF]⟩
  ·intro H2 acc mV ha hl hv;have e:acc=(rs.map fun r=>decide ((r.length:Int)=BF.nb (BF.fm k))).map V.bl:=by
    refine j4 fun i=>?_;by_cases c:i<acc.length
    ·obtain⟨r,e1,e2⟩:=hv i _ (bI c);rw[bI c,e2,aT,aT,e1];rfl
    ·rw[eO Kf,eO (by simp;omega)]
   subst e;have rX:=ha;refine⟨⟨_,mV.seq o1.sq,by simp[ol]⟩,?_⟩;refine bG rfl (bU.of (rX)) ⟨?d1,mV⟩
   case d1=>unfold kH;rw[h1];rfl
 case r1=>exact q
def Dl (K:aP) (C:Addr):Sp:=fun vs H Q _=>∃a xs,vs=[.ref a]∧(H a=some (.lst xs))∧(xs.length≤2000)∧∀l H',H l=none→aI H H'→H' l=some (.lst (V.int 0::V.int xs.length::xs))→Q (.ref l) H'
theorem Dm:aD ["row"] ["row"] (ay (top 149)):=bz
theorem uz (ak:Ev K mg C C2 C3):cw P w K mg base "with_count" ["row"] 1 (Dl K C):=by
 have T:=ak.T;refine cQ (ak.df 92) Dm lp (lr fun f bw A outer s H Q E hr a xs h=>?_);obtain⟨o1,hp,q⟩:=h;refine⟨_,aj (aq (aH FU (dw (aa (aG T.Jd rfl) (aa (bW cx rfl T.iq PySem.boot_len (aa (pv 0) (ae))) (ae)))) (pv 0))),eJ rfl rfl (.inl (bU.of (o1))) (by show 2≤sizeLine;decide) (fun l1 dC=>bT rfl rfl rfl (aL) (((ai dC) _ _ (o1))) ⟨?n1,fun l2 fk=>q _ _ (((ai dC)).free fk) (((ai dC)).trans (ai fk)) (b4 (aL) ?r1)⟩)⟩
 case n1=>show 2+xs.length≤_;unfold sizeLine;omega
 case r1=>rfl
def xt (K:aP) (C:Addr):Sp:=fun vs H Q _=>∃k x,vs=[.int k,.int x]∧(VK k∧0≤x)∧∀l H',H l=none→aI H H'→H' l=some (.lst (fg (BF.hZ (BF.fm k) x.toNat)))→Q (.ref l) H'
theorem xu:aD ["kind","bits"] ["kind","bits"] (ay (top 150)):=bz
theorem ed (ak:Ev K mg C C2 C3):cw P w K mg base "number_answer" ["kind","bits"] 3 (xt K C):=by
 have T:=ak.T;refine cQ (ak.df 93) xu lp (lr fun f bw A outer s H Q E hr k x h=>?_);obtain⟨hx,q⟩:=h;obtain⟨X,rfl⟩:=aA hx.2;have JB:=BF.gz k;refine⟨_,aj (aq (pf (uz ak) hr (aa (pf (CQ ak) hr (aa (pv 0) (aa (pv 1) (ae)))) (ae)))),br rfl rfl rfl ?p1 (fun a1 H1 s1 x1=>bJ rfl (x1) ?p2 (fun a2 H2 n2 s2 x2=>q _ _ ((s1).free n2) ((s1).trans s2) (b4 (x2) ?r1)))⟩
 case p1=>exact hx
 case p2=>rw[aF];unfold BF.uu;rw[aF,rg];omega
 case r1 =>
  rw[aN,aF];unfold BF.hZ;have e:((BF.uu (BF.fm k) (X:Int)).length:Int)=BF.nb (BF.fm k):=by unfold BF.uu;rw[aF,rg];omega
  rw[e];rfl
end
theorem fF {b:Bool}:((!b)=true)↔¬b=true:=by cases b<;>simp
theorem nt {b:Bool} (h:¬b=true):b=false:=aV _ |>.mp h
section
variable {P:Program} {w:World} {K:aP} {mg:Str→Option Value} {base:Heap} {C C2 C3:Addr}
def Eu (K:aP) (C:Addr):Sp:=fun vs H Q _=>∃k n m a x y r1 r2,vs=[.int k,.int n,.int m,.ref a]∧(fQ K H a [x,y] [r1,r2])∧((0≤k∧0≤n∧0≤m)∧BF.cS r1∧BF.cS r2)∧∀l H',H l=none→aI H H'→H' l=some (.lst (fg (NumNeutral.step NumCalls.start [[0,k,n,m],r1,r2]).2))→Q (.ref l) H'
theorem Ew:aD ["kind","number","mode","rows"] ["kind","number","mode","rows"] (ay (top 151)):=bz
theorem G5 (ak:Ev K mg C C2 C3):cw P w K mg base "answer_op" ["kind","number","mode","rows"] 7 (Eu K C):=by
 have T:=ak.T;refine cQ (ak.df 94) Ew Xb (Xd fun f bw A outer s H Q E hr k n m a x y r1 r2 h=>?_);obtain⟨o1,⟨⟨hk,hn,hm⟩,b1,b2⟩,q⟩:=h;refine⟨_,ah (aS (cy (PW.pt (dj (iY (aQ (pf (iH ak) hr (aa (pv 0) (aa (pv 3) (ae)))))) (dj (b8 eX (pv 1) (aG T.zG rfl)) (dQ (b8 eX (pv 2) (aG T.g7 rfl))))))) (aj (aq (dw (aa (aG T.gS rfl) (ae))))) (aB)) (aj (aq (pf (ed ak) hr (aa (pv 0) (aa (pf (GP ak) hr (aa (pv 0) (aa (pv 1) (aa (pv 2) (aa (pf (dq ak) hr (aa (ek aZ (pv 3) (al)) (ae))) (aa (pf (dq ak) hr (aa (ek aZ (pv 3) (al)) (ae))) (ae))))))) (ae)))))),⟨(!kH k [r1,r2]||(decide (10<n)||decide (4<m))),aR rfl rfl (gj rfl (o1) ?p1 (bg rfl (aK (fun h2=>?d1) (fun h2=>aE rfl rfl rfl rfl (aK (fun h3=>?d2) (fun h3=>aE rfl rfl rfl rfl ?d3)))))),aK (fun h1=>⟨(by show _≤sizeLine;decide),fun l1 dC=>q _ _ ((aI.refl _).free dC) ((ai dC)) (b4 (aL) ?r1)⟩) (fun h1=>ax rfl rfl rfl rfl (bT rfl rfl rfl ((o1)).sq rfl (bJ rfl ((o1.row 0 _ _ rfl rfl)) ?p2 (bT rfl rfl rfl ((o1)).sq rfl (bJ rfl ((o1.row 1 _ _ rfl rfl)) ?p3 (jY rfl ?p4 (bG rfl ?p5 (fun a2 H2 n2 s2 x2=>q _ _ ((aI.refl _).free n2) (s2) (b4 (x2) ?r2)))))))))⟩⟩
 case p1=>exact⟨hk,by show 2≤3;decide⟩
 case d1=>exact⟨by rw[h2];rfl,rfl⟩
 case d2=>exact⟨by rw[nt h2,h3];rfl,rfl⟩
 case d3=>exact⟨by rw[nt h2,nt h3];rfl,rfl⟩
 case r1 =>
  simp only[Bool.or_eq_true,fF,decide_eq_true_eq,jZ,j0,kI] at h1;rw[BF.Gp _ hk hn hm b1 b2];dsimp only;rw[if_neg Kf];rfl
 all_goals simp only[bR,fF,dG,jZ,j0,kI] at h1
 case p2=>exact⟨b1,mX (k:=k) Kf⟩
 case p3=>exact⟨b2,mX (k:=k) Kf⟩
 case p4=>exact⟨⟨hm,Kf⟩,gE hk Kf b1 Kf,gE hk Kf b2 Kf,hn,Kf⟩
 case p5=>exact⟨⟨hk,Kf⟩,fK _⟩
 case r2 =>
  rw[BF.Gp _ hk hn hm b1 b2,Int.toNat_natCast];dsimp only;rw[if_pos Kf]
def yq (K:aP) (C:Addr):Sp:=fun vs H Q _=>∃k m e a x r1,vs=[.int k,.int m,.int e,.ref a]∧(fQ K H a [x] [r1])∧((0≤k∧0≤m)∧BF.cS r1)∧∀l H',H l=none→aI H H'→H' l=some (.lst (fg (NumNeutral.step NumCalls.start [[2,k,m,e],r1]).2))→Q (.ref l) H'
theorem yr:aD ["kind","mode","k","rows"] ["kind","mode","k","rows"] (ay (top 153)):=bz
theorem z5 (ak:Ev K mg C C2 C3):cw P w K mg base "answer_scale" ["kind","mode","k","rows"] 6 (yq K C):=by
 have T:=ak.T;refine cQ (ak.df 96) yr QO (QP fun f bw A outer s H Q E hr k m e a x r1 h=>?_);obtain⟨o1,⟨⟨hk,hm⟩,b1⟩,q⟩:=h;refine⟨_,ah (aS (cy (PW.pt (dj (iY (aQ (pf (iH ak) hr (aa (pv 0) (aa (pv 3) (ae)))))) (dj (b8 eX (pv 1) (aG T.g7 rfl)) (dQ (b8 eX (bW oQ rfl T.Cd boot_abs (aa (pv 2) (ae))) (aG T.zI rfl))))))) (aj (aq (dw (aa (aG T.gS rfl) (ae))))) (aB)) (aj (aq (pf (ed ak) hr (aa (pv 0) (aa (pf (yg ak) hr (aa (pv 0) (aa (pv 1) (aa (pf (dq ak) hr (aa (ek aZ (pv 3) (al)) (ae))) (aa (pv 2) (ae)))))) (ae)))))),⟨(!kH k [r1]||(decide (4<m)||decide (5000<(if e<0 then -e else e)))),aR rfl rfl (gj rfl (o1) ?p1 (bg rfl (aK (fun h2=>?d1) (fun h2=>aE rfl rfl rfl rfl (aK (fun h3=>?d2) (fun h3=>bx rfl rfl rfl rfl rfl ?d3)))))),aK (fun h1=>⟨(by show _≤sizeLine;decide),fun l1 dC=>q _ _ ((aI.refl _).free dC) ((ai dC)) (b4 (aL) ?r1)⟩) (fun h1=>ax rfl rfl rfl rfl (il rfl rfl ((o1)).sq rfl (bJ rfl ((o1.row 0 _ _ rfl rfl)) ?p2 (bg rfl (gJ rfl ?p3 (bG rfl ?p4 (fun a2 H2 n2 s2 x2=>q _ _ ((aI.refl _).free n2) (s2) (b4 (x2) ?r2))))))))⟩⟩
 case p1=>exact⟨hk,by show 1≤3;decide⟩
 case d1=>exact⟨by rw[h2];rfl,rfl⟩
 case d2=>exact⟨by rw[nt h2,h3];rfl,rfl⟩
 case d3=>exact⟨by rw[nt h2,nt h3];rfl,rfl⟩
 case r1 =>
  simp only[Bool.or_eq_true,fF,decide_eq_true_eq,jZ,j0,kI] at h1;rw[BF.tf _ hk hm b1];dsimp only;rw[if_neg Kf];rfl
 all_goals simp only[bR,fF,dG,jZ,j0,kI] at h1
 case p2=>exact⟨b1,mX (k:=k) Kf⟩
 case p3=>exact⟨⟨hm,Kf⟩,gE hk Kf b1 Kf,Kf,Kf⟩
 case p4=>exact⟨⟨hk,Kf⟩,fK _⟩
 case r2 =>
  rw[BF.tf _ hk hm b1,Int.toNat_natCast];dsimp only;rw[if_pos Kf]
def z6 (K:aP) (C:Addr):Sp:=fun vs H Q _=>∃j k m a x r1,vs=[.int j,.int k,.int m,.ref a]∧(fQ K H a [x] [r1])∧((0≤j∧0≤k∧0≤m)∧BF.cS r1)∧∀l H',H l=none→aI H H'→H' l=some (.lst (fg (NumNeutral.step NumCalls.start [[3,j,k,m],r1]).2))→Q (.ref l) H'
theorem z8:aD ["from_kind","to_kind","mode","rows"] ["from_kind","to_kind","mode","rows"] (ay (top 154)):=bz
theorem Dn (ak:Ev K mg C C2 C3):cw P w K mg base "answer_conv" ["from_kind","to_kind","mode","rows"] 6 (z6 K C):=by
 have T:=ak.T;refine cQ (ak.df 97) z8 QO (QP fun f bw A outer s H Q E hr j k m a x r1 h=>?_);obtain⟨o1,⟨⟨hj,hk,hm⟩,b1⟩,q⟩:=h;refine⟨_,ah (aS (cy (PW.pt (dj (iY (aQ (pf (iH ak) hr (aa (pv 0) (aa (pv 3) (ae)))))) (dj (b8 eX (pv 1) (aG T.kS rfl)) (dQ (b8 eX (pv 2) (aG T.g7 rfl))))))) (aj (aq (dw (aa (aG T.gS rfl) (ae))))) (aB)) (aj (aq (pf (ed ak) hr (aa (pv 1) (aa (pf (lY ak) hr (aa (pv 0) (aa (pv 1) (aa (pv 2) (aa (pf (dq ak) hr (aa (ek aZ (pv 3) (al)) (ae))) (ae)))))) (ae)))))),⟨(!kH j [r1]||(decide (3<k)||decide (4<m))),aR rfl rfl (gj rfl (o1) ?p1 (bg rfl (aK (fun h2=>?d1) (fun h2=>aE rfl rfl rfl rfl (aK (fun h3=>?d2) (fun h3=>aE rfl rfl rfl rfl ?d3)))))),aK (fun h1=>⟨(by show _≤sizeLine;decide),fun l1 dC=>q _ _ ((aI.refl _).free dC) ((ai dC)) (b4 (aL) ?r1)⟩) (fun h1=>ax rfl rfl rfl rfl (bT rfl rfl rfl ((o1)).sq rfl (bJ rfl ((o1.row 0 _ _ rfl rfl)) ?p2 (gJ rfl ?p3 (bG rfl ?p4 (fun a2 H2 n2 s2 x2=>q _ _ ((aI.refl _).free n2) (s2) (b4 (x2) ?r2)))))))⟩⟩
 case p1=>exact⟨hj,by show 1≤3;decide⟩
 case d1=>exact⟨by rw[h2];rfl,rfl⟩
 case d2=>exact⟨by rw[nt h2,h3];rfl,rfl⟩
 case d3=>exact⟨by rw[nt h2,nt h3];rfl,rfl⟩
 case r1 =>
  simp only[Bool.or_eq_true,fF,decide_eq_true_eq,jZ,j0,kI] at h1;rw[BF.wy _ hj hk hm b1];dsimp only;rw[if_neg Kf];rfl
 all_goals simp only[bR,fF,dG,jZ,j0,kI] at h1
 case p2=>exact⟨b1,mX (k:=j) Kf⟩
 case p3=>exact⟨⟨hm,Kf⟩,⟨hk,Kf⟩,gE hj Kf b1 Kf⟩
 case p4=>exact⟨⟨hk,Kf⟩,fK _⟩
 case r2 =>
  rw[BF.wy _ hj hk hm b1,Int.toNat_natCast];dsimp only;rw[if_pos Kf]
def Dq (K:aP) (C:Addr):Sp:=fun vs H Q _=>∃k h a x y r1 r2,vs=[.int k,.int h,.ref a]∧(fQ K H a [x,y] [r1,r2])∧((0≤k∧0≤h)∧BF.cS r1∧BF.cS r2)∧∀l H',H l=none→aI H H'→H' l=some (.lst (fg (NumNeutral.step NumCalls.start [[5,k,h],r1,r2]).2))→Q (.ref l) H'
theorem Dr:aD ["kind","how","rows"] ["kind","how","rows"] (ay (top 156)):=bz
theorem Ey (ak:Ev K mg C C2 C3):cw P w K mg base "answer_cmp" ["kind","how","rows"] 5 (Dq K C):=by
 have T:=ak.T;refine cQ (ak.df 99) Dr Xa (Xc fun f bw A outer s H Q E hr k h a x y r1 r2 h=>?_);obtain⟨o1,⟨⟨hk,hh⟩,b1,b2⟩,q⟩:=h;refine⟨_,ah (aS (cy (PW.pt (dj (iY (aQ (pf (iH ak) hr (aa (pv 0) (aa (pv 2) (ae)))))) (dQ (b8 eX (pv 1) (aG T.Oq rfl)))))) (aj (aq (dw (aa (aG T.gS rfl) (ae))))) (aB)) (aj (aq (dw (aa (aG T.Jd rfl) (aa (pf (Jp ak) hr (aa (pv 0) (aa (pv 1) (aa (pf (dq ak) hr (aa (ek aZ (pv 2) (al)) (ae))) (aa (pf (dq ak) hr (aa (ek aZ (pv 2) (al)) (ae))) (ae)))))) (ae)))))),⟨(!kH k [r1,r2]||decide (1<h)),aR rfl rfl (gj rfl (o1) ?p1 (bg rfl (aK (fun h2=>?d1) (fun h2=>aE rfl rfl rfl rfl ?d2)))),aK (fun h1=>⟨(by show _≤sizeLine;decide),fun l1 dC=>q _ _ ((aI.refl _).free dC) ((ai dC)) (b4 (aL) ?r1)⟩) (fun h1=>aW rfl rfl rfl (il rfl rfl ((o1)).sq rfl (bJ rfl ((o1.row 0 _ _ rfl rfl)) ?p2 (bT rfl rfl rfl ((o1)).sq rfl (bJ rfl ((o1.row 1 _ _ rfl rfl)) ?p3 (gj rfl ?p4 (by show 2≤sizeLine;decide) (fun l2 fk=>q _ _ ((aI.refl _).free fk) ((ai fk)) (b4 (aL) ?r2))))))))⟩⟩
 case p1=>exact⟨hk,by show 2≤3;decide⟩
 case d1=>exact⟨by rw[h2];rfl,rfl⟩
 case d2=>exact⟨by rw[nt h2];rfl,rfl⟩
 case r1 =>
  simp only[Bool.or_eq_true,fF,decide_eq_true_eq,jZ,j0,kI] at h1;rw[BF.Av _ hk hh b1 b2];dsimp only;rw[if_neg Kf];rfl
 all_goals simp only[bR,fF,dG,jZ,j0,kI] at h1
 case p2=>exact⟨b1,mX (k:=k) Kf⟩
 case p3=>exact⟨b2,mX (k:=k) Kf⟩
 case p4=>exact⟨gE hk Kf b1 Kf,gE hk Kf b2 Kf,hh⟩
 case r2 =>
  rw[BF.Av _ hk hh b1 b2];dsimp only;rw[if_pos Kf];rfl
def z9 (K:aP) (C:Addr):Sp:=fun vs H Q _=>∃k a x r1,vs=[.int k,.ref a]∧(fQ K H a [x] [r1])∧(0≤k∧BF.cS r1)∧∀l H',H l=none→aI H H'→H' l=some (.lst (fg (NumNeutral.step NumCalls.start [[6,k],r1]).2))→Q (.ref l) H'
theorem Aa:aD ["kind","rows"] ["kind","rows"] (ay (top 157)):=bz
theorem Ds (ak:Ev K mg C C2 C3):cw P w K mg base "answer_text" ["kind","rows"] 9 (z9 K C):=by
 have T:=ak.T;refine cQ (ak.df 100) Aa qS (qT fun f bw A outer s H Q E hr k a x r1 h=>?_);obtain⟨o1,⟨hk,b1⟩,q⟩:=h;refine⟨_,ah (aS (iY (aQ (pf (iH ak) hr (aa (pv 0) (aa (pv 1) (ae)))))) (aj (aq (dw (aa (aG T.gS rfl) (ae))))) (aB)) (aj (aq (pf (uz ak) hr (aa (pf (US ak) hr (aa (pv 0) (aa (pf (dq ak) hr (aa (ek aZ (pv 1) (al)) (ae))) (ae)))) (ae))))),aR rfl rfl (gj rfl (o1) ?p1 (bg rfl (aK (fun h1=>⟨(by show _≤sizeLine;decide),fun l1 dC=>q _ _ ((aI.refl _).free dC) ((ai dC)) (b4 (aL) ?r1)⟩) (fun h1=>aR rfl rfl (il rfl rfl ((o1)).sq rfl (bJ rfl ((o1.row 0 _ _ rfl rfl)) ?p2 (bG rfl ?p3 (fun a2 H2 s2 x2=>bJ rfl (x2) ?p4 (fun a3 H3 n3 s3 x3=>q _ _ ((s2).free n3) ((s2).trans s3) (b4 (x3) ?r2))))))))))⟩
 case p1=>exact⟨hk,by show 1≤3;decide⟩
 case r1 =>
  simp only[Bool.or_eq_true,fF,decide_eq_true_eq,jZ,j0,kI] at h1;rw[BF.wz _ hk b1];dsimp only;rw[if_neg Kf];rfl
 all_goals simp only[bR,fF,dG,jZ,j0,kI] at h1
 case p2=>exact⟨b1,mX (k:=k) Kf⟩
 case p3=>exact⟨gE hk Kf b1 Kf,bZ (C8 (gE hk Kf b1 Kf)) J9⟩
 case p4=>rw[aF];exact bZ (FF (gE hk Kf b1 Kf)) J9
 case r2 =>
  rw[BF.wz _ hk b1,List.length_map];dsimp only;rw[if_pos Kf];show _=V.int 0::V.int _::fg (BF.xY _);unfold BF.xY;rw[List.length_map];show _=V.int 0::V.int _::List.map V.int (List.map _ _);rw[List.map_map];rfl
def yt (K:aP) (C:Addr):Sp:=fun vs H Q _=>∃k m b g a x r1,vs=[.int k,.int m,.int b,.int g,.ref a]∧(fQ K H a [x] [r1])∧((0≤k∧0≤m∧0≤b∧0≤g)∧BF.cS r1)∧∀l H',H l=none→aI H H'→H' l=some (.lst (fg (NumNeutral.step NumCalls.start [[13,k,m,b,g],r1]).2))→Q (.ref l) H'
theorem yu:aD ["kind","mode","width","sign","rows"] ["kind","mode","width","sign","rows"] (ay (top 166)):=bz
theorem Ab (ak:Ev K mg C C2 C3):cw P w K mg base "answer_whole" ["kind","mode","width","sign","rows"] 6 (yt K C):=by
 have T:=ak.T;refine cQ (ak.df 109) yu Xa (Xc fun f bw A outer s H Q E hr k m b g a x r1 h=>?_);obtain⟨o1,⟨⟨hk,hm,hb,hg⟩,b1⟩,q⟩:=h;refine⟨_,ah (aS (cy (PW.pt (dj (iY (aQ (pf (iH ak) hr (aa (pv 0) (aa (pv 4) (ae)))))) (dj (b8 eX (pv 1) (aG T.g7 rfl)) (dj (b8 jv (pv 2) (al)) (dj (b8 eX (pv 2) (aG T.Ll rfl)) (dQ (b8 eX (pv 3) (aG T.Lm rfl))))))))) (aj (aq (dw (aa (aG T.gS rfl) (ae))))) (aB)) (aj (aq (dw (aa (aG T.Jd rfl) (aa (pf (Ee ak) hr (aa (pv 0) (aa (pv 1) (aa (pv 2) (aa (iz bp (pv 3) (al)) (aa (pf (dq ak) hr (aa (ek aZ (pv 4) (al)) (ae))) (ae))))))) (ae)))))),⟨(!kH k [r1]||(decide (4<m)||(decide (b<1)||(decide (48<b)||decide (1<g))))),aR rfl rfl (gj rfl (o1) ?p1 (bg rfl (aK (fun h2=>?d1) (fun h2=>aE rfl rfl rfl rfl (aK (fun h3=>?d2) (fun h3=>aE rfl rfl rfl rfl (aK (fun h4=>?d3) (fun h4=>aE rfl rfl rfl rfl (aK (fun h5=>?d4) (fun h5=>aE rfl rfl rfl rfl ?d5)))))))))),aK (fun h1=>⟨(by show _≤sizeLine;decide),fun l1 dC=>q _ _ ((aI.refl _).free dC) ((ai dC)) (b4 (aL) ?r1)⟩) (fun h1=>ax rfl rfl rfl rfl (ck rfl rfl rfl (il rfl rfl ((o1)).sq rfl (bJ rfl ((o1.row 0 _ _ rfl rfl)) ?p2 (jY rfl ?p3 ⟨(by show 2≤sizeLine;decide),fun l2 fk=>q _ _ ((aI.refl _).free fk) ((ai fk)) (b4 (aL) ?r2)⟩)))))⟩⟩
 case p1=>exact⟨hk,by show 1≤3;decide⟩
 case d1=>exact⟨by rw[h2];rfl,rfl⟩
 case d2=>exact⟨by rw[nt h2,h3];rfl,rfl⟩
 case d3=>exact⟨by rw[nt h2,nt h3,h4];rfl,rfl⟩
 case d4=>exact⟨by rw[nt h2,nt h3,nt h4,h5];rfl,rfl⟩
 case d5=>exact⟨by rw[nt h2,nt h3,nt h4,nt h5];rfl,rfl⟩
 case r1 =>
  simp only[Bool.or_eq_true,fF,decide_eq_true_eq,jZ,j0,kI] at h1;rw[BF.tj _ hk hm hb hg b1];dsimp only;rw[if_neg Kf];rfl
 all_goals simp only[bR,fF,dG,jZ,j0,kI] at h1
 case p2=>exact⟨b1,mX (k:=k) Kf⟩
 case p3=>exact⟨⟨hm,Kf⟩,gE hk Kf b1 Kf,Kf,Kf⟩
 case r2 =>
  rw[BF.tj _ hk hm hb hg b1];dsimp only;rw[if_pos Kf];rfl
def yw (K:aP) (C:Addr):Sp:=fun vs H Q _=>∃k m z,vs=[.int k,.int m,.int z]∧((0≤k∧0≤m)∧Sm 1000 z)∧∀l H',H l=none→aI H H'→H' l=some (.lst (fg (NumNeutral.step NumCalls.start [[14,k,m,z]]).2))→Q (.ref l) H'
theorem yx:aD ["kind","mode","z"] ["kind","mode","z"] (ay (top 167)):=bz
theorem Ac (ak:Ev K mg C C2 C3):cw P w K mg base "answer_float" ["kind","mode","z"] 6 (yw K C):=by
 have T:=ak.T;refine cQ (ak.df 110) yx lW (lX fun f bw A outer s H Q E hr k m z h=>?_);obtain⟨⟨⟨hk,hm⟩,hz⟩,q⟩:=h;refine⟨_,ah (aS (cy (PW.pt (dj (b8 eX (pv 0) (aG T.kS rfl)) (dQ (b8 eX (pv 1) (aG T.g7 rfl)))))) (aj (aq (dw (aa (aG T.gS rfl) (ae))))) (aB)) (aj (aq (pf (ed ak) hr (aa (pv 0) (aa (pf (Eb ak) hr (aa (pv 0) (aa (pv 1) (aa (pv 2) (ae))))) (ae)))))),⟨(decide (3<k)||decide (4<m)),aE rfl rfl rfl rfl (aK (fun h2=>?d1) (fun h2=>aE rfl rfl rfl rfl ?d2)),aK (fun h1=>⟨(by show _≤sizeLine;decide),fun l1 dC=>q _ _ ((aI.refl _).free dC) ((ai dC)) (b4 (aL) ?r1)⟩) (fun h1=>ax rfl rfl rfl rfl (eZ rfl ?p1 (bG rfl ?p2 (fun a2 H2 n2 s2 x2=>q _ _ ((aI.refl _).free n2) (s2) (b4 (x2) ?r2)))))⟩⟩
 case d1=>exact⟨by rw[h2];rfl,rfl⟩
 case d2=>exact⟨by rw[nt h2];rfl,rfl⟩
 case r1 =>
  simp only[Bool.or_eq_true,fF,decide_eq_true_eq,jZ,j0,kI] at h1;rw[BF.tq _ _ hk hm];dsimp only;rw[if_neg Kf];rfl
 all_goals simp only[bR,fF,dG,jZ,j0,kI] at h1
 case p1=>exact⟨⟨hm,Kf⟩,⟨hk,Kf⟩,hz⟩
 case p2=>exact⟨⟨hk,Kf⟩,fK _⟩
 case r2 =>
  rw[BF.tq _ _ hk hm,Int.toNat_natCast];dsimp only;rw[if_pos Kf]
end
theorem aaU {n c:Nat} (h2:2≤c) (h8:c≤8) (h:n%c=0) (hn:n≤1000):Wv 0 (n:Int) (c:Int) (n/c):=by
 have hs:Builtin.Range.rangeSize 0 (n:Int) (c:Int)=((n/c:Nat):Int):=by
  unfold Builtin.Range.rangeSize;rw[ao (show (c:Int)>0 by omega)];obtain rfl | rfl | rfl | rfl | rfl | rfl | rfl:c=2∨c=3∨c=4∨c=5∨c=6∨c=7∨c=8:=by omega
  all_goals split<;>omega
 refine⟨Kf,Kf,?_,hs⟩;have hd:n/c≤n:=JX n c;unfold Builtin.Range.small;rw[hs];generalize n/c=qq at *;simp only[Builtin.Range.rangeFitsLong,cI,bR,dG,dE,show (c:Int)>0 by omega,aJ];omega
theorem rgc {k:Int} {n:Nat} (h:(n:Int)%BF.nb (BF.fm k)=0) (hn:n≤1000):Wv 0 (n:Int) (BF.nb (BF.fm k)) (n/(BF.nb (BF.fm k)).toNat):=by
 have JB:=BF.gz k;obtain⟨c,hc⟩:=aA (show 0≤BF.nb (BF.fm k) by omega);rw[hc] at h JB ⊢;rw[aN];exact aaU Kf Kf Kf hn
theorem R7 {l:List Int} {n:Int} {i:Nat} (h:0≤n):gb (fg l) (some (0+(i:Nat)*n)) (some (0+(i:Nat)*n+n))=fg ((l.drop (i*n.toNat)).take n.toNat):=by
 obtain⟨N,rfl⟩:=aA h;have:=tL (fg l) (i*N) (i*N+N);rw[show i*N+N-i*N=N by omega,←oK,←oH] at this;rw[aN,Int.zero_add];rw[cJ,eR] at this;exact this
def FH (k o m:Int) (l:List Int):Bool:=decide ((k≤3∧o≤4∧m≤4)∧(l.length:Int)%BF.nb (BF.fm k)=0∧(l.length:Int)≤64*BF.nb (BF.fm k))
theorem L5 {n:Nat} {l:List Int} (hb:BF.cS l):fg (BF.gw n l)=List.map (fun (c:Nat)=>V.int c) ((BF.gw n l).map Int.toNat):=by
 rw[js];refine xE fun x hx=>?_;unfold BF.gw at hx;obtain⟨i,_,rfl⟩:=ju.mp hx;show V.int _=V.int _;rw[fz (BF.gR ((hb.drop _).take _)).1]
theorem yy {k:Int} {l:List Int} (hb:BF.cS l) (h:(l.length:Int)%BF.nb (BF.fm k)=0):∀x∈(BF.gw (BF.nb (BF.fm k)).toNat l).map Int.toNat,x<2*(BF.fm k).sign:=by
 intro x hx;obtain⟨y,hy,rfl⟩:=ju.mp hx;unfold BF.gw at hy;obtain⟨i,hi,rfl⟩:=ju.mp hy;have hi:=oM.mp hi;have nb2:=BF.gz k;refine BF.ph k ((hb.drop _).take _) ?_;rw[fM,et];have e:((BF.nb (BF.fm k)).toNat:Int)=BF.nb (BF.fm k):=by omega
 have h1:(i+1)*(BF.nb (BF.fm k)).toNat≤l.length:=bZ (vW _ hi) (Nat.div_mul_le_self _ _);rw[vY,Nat.one_mul] at h1;omega
section
variable {P:Program} {w:World} {K:aP} {mg:Str→Option Value} {base:Heap} {C C2 C3:Addr}
def xw (K:aP) (C:Addr):Sp:=fun vs H Q _=>∃k o m a l,vs=[.int k,.int o,.int m,.ref a]∧(bU K H a (fg l))∧((0≤k∧0≤o∧0≤m)∧l.length≤20000)∧Q (.bl (FH k o m l)) H
theorem xx:aD ["kind","order","mode","row"] ["kind","order","mode","row"] (ay (top 162)):=bz
theorem pI (ak:Ev K mg C C2 C3):cw P w K mg base "can_be_summed" ["kind","order","mode","row"] 2 (xw K C):=by
 have T:=ak.T;refine bc (ak.df 105) xx B0 (B3 fun f bw A outer s H Q E hr k o m a l h=>?_);obtain⟨o1,⟨⟨hk,ho,hm⟩,hl⟩,q⟩:=h;refine⟨_,ah (aS (cy (PW.pt (dj (b8 eX (pv 0) (aG T.kS rfl)) (dj (b8 eX (pv 1) (aG T.Jb rfl)) (dQ (b8 eX (pv 2) (aG T.g7 rfl))))))) (aj (aq (jJ))) (aB)) (aj (aq (cY (lN (iz bp (aH jE (bW cx rfl T.iq PySem.boot_len (aa (pv 3) (ae))) (pf (jC ak) hr (aa (pv 0) (ae)))) (al)) (jh (iz AX (bW cx rfl T.iq PySem.boot_len (aa (pv 3) (ae))) (aH cK (aG T.D4 rfl) (pf (jC ak) hr (aa (pv 0) (ae)))))))))),⟨(decide (3<k)||(decide (4<o)||decide (4<m))),aE rfl rfl rfl rfl (aK (fun h2=>?d1) (fun h2=>aE rfl rfl rfl rfl (aK (fun h3=>?d2) (fun h3=>aE rfl rfl rfl rfl ?d3)))),aK (fun h1=>⟨aI.refl _,?r1⟩) (fun h1=>⟨.bl (decide (((fg l).length:Int)%BF.nb (BF.fm k)=0)&&decide (((fg l).length:Int)≤64*BF.nb (BF.fm k))),aE rfl rfl (.inl (o1)) rfl (eG rfl ?p1 (bJ rfl rfl ?c1 (ck rfl rfl rfl (aK (fun h4=>aE rfl rfl (.inl (o1)) rfl (eG rfl ?p2 (bJ rfl rfl ?c2 (bG rfl rfl ?d4)))) (fun h4=>?d5))))),⟨aI.refl _,?r2⟩⟩)⟩⟩
 case d1=>exact⟨by rw[h2];rfl,rfl⟩
 case d2=>exact⟨by rw[nt h2,h3];rfl,rfl⟩
 case d3=>exact⟨by rw[nt h2,nt h3];rfl,rfl⟩
 case r1 =>
  simp only[bR,fF,dG,jZ,j0,kI] at h1;exact wD q (by unfold FH;rw[bS Kf])
 all_goals simp only[bR,fF,dG,jZ,j0,kI] at h1
 all_goals have JB:=BF.gz k
 case p1=>exact⟨hk,Kf⟩
 case c1=>show (0:Int)<BF.nb (BF.fm k);omega
 case p2=>exact⟨hk,Kf⟩
 case c2=>exact⟨b6 J9 J9,b6 Kf J9⟩
 case d4=>exact⟨by rw[h4];rfl,rfl⟩
 case d5=>exact⟨by rw[nt h4];rfl,rfl⟩
 case r2 =>
  refine wD q ?_;unfold FH;rw[aF,←Bool.decide_and];exact tM.mpr ⟨fun z=>⟨Kf,z⟩,fun z=>z.2⟩
def vx (K:aP) (C:Addr):Sp:=fun vs H Q _=>∃k a l,vs=[.int k,.ref a]∧(bU K H a (fg l))∧(VK k∧BF.cS l∧(l.length:Int)%BF.nb (BF.fm k)=0∧l.length≤1000)∧∀x H',aI H H'→H' x=some (.lst (List.map (fun (c:Nat)=>V.int c) ((BF.gw (BF.nb (BF.fm k)).toNat l).map Int.toNat)))→Q (.ref x) H'
theorem iI:aD ["kind","row","step","start"] ["kind","row"] (ay (top 163)):=bz
theorem kE (ak:Ev K mg C C2 C3):cw P w K mg base "numbers_in_row" ["kind","row"] 2 (vx K C):=by
 have T:=ak.T;refine cQ (ak.df 106) iI lW (lX fun f bw A outer s H Q E hr k a l h=>?_);obtain⟨o1,⟨hk,hb,QB,hl⟩,q⟩:=h;refine⟨_,ah (sv 2 iI.nd (pf (jC ak) hr (aa (pv 0) (ae)))) (aj (aq (uM rfl iI.nd (Ky rfl T.wK (aa (al) (aa (bW cx rfl T.iq PySem.boot_len (aa (pv 1) (ae))) (aa (pv 2) (ae))))) (own:=[("start",3)]) (jj rfl) (fun _ _ _ _ _=>eK (i:=3) iI.nd rfl (Or.inl rfl)) (fun _ _ _ _ _=>kf) (fun _ _ _ _ _=>pf (dq ak) hr (aa (eV (OV (K:=K) rfl) (pv 1) (dS (pv 3)) (dS (aH bX (pv 3) (pv 2)))) (ae)))))),cP rfl rfl ?p1 (aE rfl rfl (.inl (o1)) rfl (gJ rfl (rgc (by rw[aF];exact QB) (by rw[aF];exact hl)) (fun D1 yl=>?k1)))⟩
 case p1=>exact hk
 case k1 =>
  have JB:=BF.gz k;refine ma ((fg l).length/(BF.nb (BF.fm k)).toNat) (by have:=JX (fg l).length (BF.nb (BF.fm k)).toNat;rw[aF] at *;unfold sizeLine;omega) yl (fun i v _=>v=.int (BF.cj ((l.drop (i*(BF.nb (BF.fm k)).toNat)).take (BF.nb (BF.fm k)).toNat))) (fun _ _ _ _ _ e=>e) (fun _ _ _ _ _ _ e=>e) ?_ ?_
  ·intro i Hi Kx hi si hK;refine⟨hi,?_⟩;rintro x1 H2 ⟨rfl,rfl⟩;refine⟨rfl,ax rfl rfl rfl rfl (aE rfl rfl rfl rfl (bG rfl ((si).seq (o1)) (fun l2 fk=>bJ rfl (bU.of ((b4 aL (R7 (by have:=BF.gz k;omega))))) ?p2 ?e1)))⟩
   case p2=>exact⟨(hb.drop _).take _,by rw[fM];omega⟩
   case e1=>exact hK _ _ (by first | exact ai (by assumption) | exact aI.refl _) rfl
  ·intro H2 acc mV xk0 hlen hv;have rX:H2 D1=some (.lst (List.map (fun (c:Nat)=>V.int c) ((BF.gw (BF.nb (BF.fm k)).toNat l).map Int.toNat))):=by
    rw[←L5 hb,xk0];congr 2;unfold BF.gw;rw[aF] at hlen;exact MR hlen fun i v e=>hv i v e
   refine⟨bB _,?_⟩;refine q _ _ (mV) (b4 (rX) ?r1)
   case r1=>rfl
end
theorem M1 {K:aP} {H:Hp} {a l x y:Addr} {r1 r2:List Int} (o:fQ K H a [x,y] [r1,r2]) (h:H l=none):fQ K (upd H l (.lst (gb ([x,y].map V.ref) none (some 1)))) l [x] [r1]:=by
 refine⟨bU.of (show upd H l (.lst (gb ([x,y].map V.ref) none (some 1))) l=some (.lst ([x].map V.ref)) from aL),rfl,fun i z r e1 e2=>?_⟩
 match i with
 | 0=>exact(ai h).seq (o.row 0 _ _ e1 e2)
 | i+1=>simp at e1
theorem JO {k:Int} {l:List Int} (h:(l.length:Int)≤64*BF.nb (BF.fm k)):l.length/(BF.nb (BF.fm k)).toNat≤64:=by
 have JB:=BF.gz k;obtain⟨c,hc⟩:=aA (show 0≤BF.nb (BF.fm k) by omega);rw[hc] at h ⊢;rw[aN];exact Nat.div_le_of_le_mul Kf
theorem U0 {k n:Int} {r1 r2:List Int}:kH k (if n=5 then [r1,r2] else [r1])=true↔k≤3∧(r1.length:Int)=BF.nb (BF.fm k)∧(n=5→(r2.length:Int)=BF.nb (BF.fm k)):=by
 split
 ·next h=>rw[j0];simp[h]
 ·next h=>rw[jZ];simp[h]
section
variable {P:Program} {w:World} {K:aP} {mg:Str→Option Value} {base:Heap} {C C2 C3:Addr}
def Dt (K:aP) (C:Addr):Sp:=fun vs H Q _=>∃k m a x y z r1 r2 r3,vs=[.int k,.int m,.ref a]∧(fQ K H a [x,y,z] [r1,r2,r3])∧((0≤k∧0≤m)∧BF.cS r1∧BF.cS r2∧BF.cS r3)∧∀l H',H l=none→aI H H'→H' l=some (.lst (fg (NumNeutral.step NumCalls.start [[1,k,m],r1,r2,r3]).2))→Q (.ref l) H'
theorem mY:aD ["kind","mode","rows","bits","row"] ["kind","mode","rows"] (ay (top 152)):=bz
theorem Ez (ak:Ev K mg C C2 C3):cw P w K mg base "answer_fma" ["kind","mode","rows"] 6 (Dt K C):=by
 have T:=ak.T;refine cQ (ak.df 95) mY xl9 (el9 fun f bw A outer s H Q E hr k m a x y z r1 r2 r3 h=>?_);obtain⟨o1,⟨⟨hk,hm⟩,b1,b2,b3⟩,q⟩:=h;refine⟨_,ah (aS (cy (PW.pt (dj (iY (aQ (pf (iH ak) hr (aa (pv 0) (aa (pv 2) (ae)))))) (dQ (b8 eX (pv 1) (aG T.g7 rfl)))))) (aj (aq (dw (aa (aG T.gS rfl) (ae))))) (aB)) (ah (EV (i:=3) rfl mY.nd rfl rfl (HW rfl rfl rfl rfl) (oO (pv 2)) (own:=[("row",4)]) (jj rfl) (fun _ _ _ _ _=>eK (i:=4) mY.nd rfl (Or.inl rfl)) (fun _ _ _ _ _=>kf) (fun _ _ _ _ _=>pf (dq ak) hr (aa (pv 4) (ae)))) (aj (aq (pf (ed ak) hr (aa (pv 0) (aa (pf (rW ak) hr (aa (pv 0) (aa (pv 1) (aa (ek aZ (pv 3) (al)) (aa (ek aZ (pv 3) (al)) (aa (ek aZ (pv 3) (al)) (ae))))))) (ae))))))),⟨(!kH k [r1,r2,r3]||decide (4<m)),aR rfl rfl (gj rfl (o1) ?p1 (bg rfl (aK (fun h2=>?d1) (fun h2=>aE rfl rfl rfl rfl ?d2)))),aK (fun h1=>⟨(by show _≤sizeLine;decide),fun l1 dC=>q _ _ ((aI.refl _).free dC) ((ai dC)) (b4 (aL) ?r1)⟩) (fun h1=>cP rfl rfl ⟨_,((o1)).sq⟩ (fun D2 hD2=>?k1))⟩⟩
 case p1=>exact⟨hk,by show 3≤3;decide⟩
 case d1=>exact⟨by rw[h2];rfl,rfl⟩
 case d2=>exact⟨by rw[nt h2];rfl,rfl⟩
 case r1 =>
  simp only[Bool.or_eq_true,fF,decide_eq_true_eq,jZ,j0,kI] at h1;rw[BF.Au _ hk hm b1 b2 b3];dsimp only;rw[if_neg Kf];rfl
 all_goals simp only[bR,fF,dG,jZ,j0,kI] at h1
 case k1 =>
  have hr8:∀r∈[r1,r2,r3],BF.cS r∧r.length≤8:=by
   intro r hr;simp only[cO,List.not_mem_nil,or_false] at hr;rcases hr with rfl | rfl | rfl
   ·exact⟨b1,mX (k:=k) Kf⟩
   ·exact⟨b2,mX (k:=k) Kf⟩
   ·exact⟨b3,mX (k:=k) Kf⟩
  refine ma 3 (by unfold sizeLine;omega) (by assumption) (fun i v _=>∃r,[r1,r2,r3][i]?=some r∧v=.int (BF.cj r)) (fun _ _ _ _ _ e=>e) (fun _ _ _ _ _ _ e=>e) ?_ ?_
  ·intro i Hi Kx hi si hK;have xa:[x,y,z][i]?=some ([x,y,z][i]'hi):=bI hi;have xb:[r1,r2,r3][i]?=some ([r1,r2,r3][i]'hi):=bI hi;refine⟨⟨_,_,si.seq o1.sq,by rw[aT,xa];rfl⟩,?_⟩;rintro v H2 ⟨rfl,hv⟩;have ex:=hv _ (si.seq o1.sq);rw[aT,xa] at ex;have xr:=o1.row i _ _ xa xb;have h8:=hr8 _ (fS hi);generalize [x,y,z][i]'hi=X at *;generalize [r1,r2,r3][i]'hi=r at *;obtain rfl:V.ref X=v:=bM ex;refine⟨rfl,eJ rfl rfl ((si).seq (xr)) ?p2 ?e1⟩
   case p2=>exact h8
   case e1=>exact hK _ _ (aI.refl _) ⟨r,xb,rfl⟩
  ·intro H2 acc mV ha hl hv;have e:acc=fg [BF.cj r1,BF.cj r2,BF.cj r3]:=by
    match acc,hl with
    | [v1,v2,v3],_ =>
     obtain⟨t1,e1,rfl⟩:=hv 0 v1 rfl;obtain⟨t2,e2,rfl⟩:=hv 1 v2 rfl;obtain⟨t3,e3,rfl⟩:=hv 2 v3 rfl;cases e1;cases e2;cases e3;rfl
   subst e;have rX:=ha;refine⟨⟨_,mV.seq o1.sq,by simp⟩,?_⟩;refine ax rfl rfl rfl rfl (il rfl rfl (bU.of (rX)) rfl (bT rfl rfl rfl (bU.of (rX)) rfl (bT rfl rfl rfl (bU.of (rX)) rfl (jY rfl ?p3 (bG rfl ?p4 (fun a3 H3 n3 s3 x3=>q _ _ ((mV).free n3) ((mV).trans s3) (b4 (x3) ?r2)))))))
   case p3=>exact⟨⟨hm,Kf⟩,gE hk Kf b1 Kf,gE hk Kf b2 Kf,gE hk Kf b3 Kf⟩
   case p4=>exact⟨⟨hk,Kf⟩,fK _⟩
   case r2 =>
    rw[BF.Au _ hk hm b1 b2 b3,Int.toNat_natCast];dsimp only;rw[if_pos Kf]
def EA (K:aP) (C:Addr):Sp:=fun vs H Q _=>∃k n m a x y r1 r2,vs=[.int k,.int n,.int m,.ref a]∧(fQ K H a [x,y] [r1,r2])∧((0≤k∧0≤n∧0≤m)∧BF.cS r1∧BF.cS r2)∧∀l H',H l=none→aI H H'→H' l=some (.lst (fg (NumNeutral.step NumCalls.start [[4,k,n,m],r1,r2]).2))→Q (.ref l) H'
theorem oC:aD ["kind","number","mode","rows","looked_at","b"] ["kind","number","mode","rows"] (ay (top 155)):=bz
theorem G6 (ak:Ev K mg C C2 C3):cw P w K mg base "answer_fn" ["kind","number","mode","rows"] 11 (EA K C):=by
 have T:=ak.T;refine cQ (ak.df 98) oC Xb (Xd fun f bw A outer s H Q E hr k n m a x y r1 r2 h=>?_);obtain⟨o1,⟨⟨hk,hn,hm⟩,b1,b2⟩,q⟩:=h;refine⟨_,ah (sv 4 oC.nd (wG (b9 (b8 bp (pv 1) (aG T.Q2 rfl)) (pv 3) (eV fW (pv 3) (i8) (dS (al)))))) (ah (aS (cy (PW.pt (dj (iY (aQ (pf (iH ak) hr (aa (pv 0) (aa (pv 4) (ae)))))) (dj (b8 eX (pv 1) (aG T.Ca rfl)) (dQ (b8 eX (pv 2) (aG T.g7 rfl))))))) (aj (aq (dw (aa (aG T.gS rfl) (ae))))) (aB)) (ah (sv 5 oC.nd (cY (b9 (b8 bp (pv 1) (aG T.Q2 rfl)) (pf (dq ak) hr (aa (ek aZ (pv 3) (al)) (ae))) (al)))) (aj (aq (pf (ed ak) hr (aa (pv 0) (aa (pf (Jz ak) hr (aa (pv 0) (aa (pv 1) (aa (pv 2) (aa (pf (dq ak) hr (aa (ek aZ (pv 3) (al)) (ae))) (aa (pv 5) (ae))))))) (ae)))))))),⟨(fun l H'=>aI _ H'∧fQ K H' l (if n=5 then [x,y] else [x]) (if n=5 then [r1,r2] else [r1])),aE rfl rfl rfl rfl (aK (fun h1=>bg rfl ⟨_,rfl,aI.refl _,?d1⟩) (fun h1=>br rfl rfl rfl ((o1)).sq (fun l1 dC=>⟨_,rfl,(ai dC),?d2⟩))),fun l2 M2 ⟨m2,y2⟩=>⟨(!kH k (if n=5 then [r1,r2] else [r1])||(decide (5<n)||decide (4<m))),aR rfl rfl (gj rfl (y2) ?p1 (bg rfl (aK (fun h3=>?d3) (fun h3=>aE rfl rfl rfl rfl (aK (fun h4=>?d4) (fun h4=>aE rfl rfl rfl rfl ?d5)))))),aK (fun h2=>⟨(by show _≤sizeLine;decide),fun l3 iX=>q _ _ ((m2).free iX) ((m2).trans (ai iX)) (b4 (aL) ?r1)⟩) (fun h2=>⟨.int (if n=5 then BF.cj r2 else 0),aE rfl rfl rfl rfl (aK (fun h5=>bT rfl rfl rfl ((((o1).same m2)).sq) rfl (bJ rfl ((m2).seq ((o1.row 1 _ _ rfl rfl))) ?p2 ?d6)) (fun h5=>?d7)),ax rfl rfl rfl rfl (bT rfl rfl rfl ((((o1).same m2)).sq) rfl (bJ rfl ((m2).seq ((o1.row 0 _ _ rfl rfl))) ?p3 (bg rfl (jY rfl ?p4 (bG rfl ?p5 (fun a4 H4 n4 s4 x4=>q _ _ ((m2).free n4) ((m2).trans s4) (b4 (x4) ?r2)))))))⟩)⟩⟩⟩
 case d1=>rw[ao (dt h1),ao (dt h1)];exact o1
 case d2=>rw[ag (df h1),ag (df h1)];exact M1 o1 (by assumption)
 case p1=>exact⟨hk,by split<;>exact yG rfl⟩
 case d3=>exact⟨by rw[h3];rfl,rfl⟩
 case d4=>exact⟨by rw[nt h3,h4];rfl,rfl⟩
 case d5=>exact⟨by rw[nt h3,nt h4];rfl,rfl⟩
 all_goals simp only[bR,fF,dG,U0] at h2
 case r1 =>
  rw[BF.Gq _ hk hn hm b1 b2];dsimp only;rw[if_neg Kf];rfl
 case p2=>exact⟨b2,mX (k:=k) (by have:=dt h5;omega)⟩
 case d6=>exact⟨by rw[ao (dt h5)],rfl⟩
 case d7=>exact⟨by rw[ag (df h5)],rfl⟩
 case p3=>exact⟨b1,mX (k:=k) Kf⟩
 case p4 =>
  refine⟨⟨hm,Kf⟩,gE hk Kf b1 Kf,?_,hn,Kf⟩;split
  ·next h=>exact gE hk Kf b2 Kf
  ·exact⟨⟨hk,Kf⟩,J9,by have:0<BF.aU (BF.fm k):=BF.aX _;omega⟩
 case p5=>exact⟨⟨hk,Kf⟩,fK _⟩
 case r2 =>
  rw[BF.Gq _ hk hn hm b1 b2,Int.toNat_natCast];dsimp only;rw[if_pos (show (k≤3∧(r1.length:Int)=BF.nb (BF.fm k)∧(n=5→(r2.length:Int)=BF.nb (BF.fm k)))∧n≤5∧m≤4 by omega)];by_cases h:n=5
  ·rw[ao h]
  ·rw[ag h];unfold BF.IH;rw[ag h,ag h]
def Du (K:aP) (C:Addr):Sp:=fun vs H Q _=>∃k o m a x r1,vs=[.int k,.int o,.int m,.ref a]∧(fQ K H a [x] [r1])∧((0≤k∧0≤o∧0≤m)∧BF.cS r1∧r1.length≤20000)∧∀l H',H l=none→aI H H'→H' l=some (.lst (fg (NumNeutral.step NumCalls.start [[11,k,o,m],r1]).2))→Q (.ref l) H'
theorem Dv:aD ["kind","order","mode","rows"] ["kind","order","mode","rows"] (ay (top 164)):=bz
theorem EC (ak:Ev K mg C C2 C3):cw P w K mg base "answer_sum" ["kind","order","mode","rows"] 9 (Du K C):=by
 have T:=ak.T;refine cQ (ak.df 107) Dv QO (QP fun f bw A outer s H Q E hr k o m a x r1 h=>?_);obtain⟨o1,⟨⟨hk,ho,hm⟩,b1,hl⟩,q⟩:=h;refine⟨_,ah (aS (iY (aQ (pf (pI ak) hr (aa (pv 0) (aa (pv 1) (aa (pv 2) (aa (ek aZ (pv 3) (al)) (ae)))))))) (aj (aq (dw (aa (aG T.gS rfl) (ae))))) (aB)) (aj (aq (pf (ed ak) hr (aa (pv 0) (aa (pf (xg ak) hr (aa (pv 0) (aa (pv 1) (aa (pv 2) (aa (pf (kE ak) hr (aa (pv 0) (aa (ek aZ (pv 3) (al)) (ae)))) (ae)))))) (ae)))))),ax rfl rfl rfl rfl (il rfl rfl ((o1)).sq rfl (jY rfl ((o1.row 0 _ _ rfl rfl)) ⟨?p1,bg rfl (aK (fun h1=>⟨(by show _≤sizeLine;decide),fun l1 dC=>q _ _ ((aI.refl _).free dC) ((ai dC)) (b4 (aL) ?r1)⟩) (fun h1=>ax rfl rfl rfl rfl (aR rfl rfl (il rfl rfl ((o1)).sq rfl (jr rfl ((o1.row 0 _ _ rfl rfl)) ?p2 (fun a2 H2 s2 x2=>jY rfl (bU.of (x2)) ⟨?p3,bG rfl ?p4 (fun a3 H3 n3 s3 x3=>q _ _ ((s2).free n3) ((s2).trans s3) (b4 (x3) ?r2))⟩))))))⟩))⟩
 case p1=>exact⟨⟨hk,ho,hm⟩,hl⟩
 all_goals unfold FH at h1
 all_goals simp only[fF,dG] at h1
 case r1 =>
  rw[BF.Ax _ hk ho hm b1];dsimp only;rw[if_neg Kf];rfl
 all_goals have JB:=BF.gz k
 case p2=>exact⟨⟨hk,Kf⟩,b1,Kf,Kf⟩
 case p3 =>
  refine⟨⟨hm,Kf⟩,⟨hk,Kf⟩,Kf,yy b1 Kf,?_⟩;rw[aF,BF.chunk_len];exact JO Kf
 case p4=>exact⟨⟨hk,Kf⟩,fK _⟩
 case r2 =>
  rw[BF.Ax _ hk ho hm b1,Int.toNat_natCast];dsimp only;rw[if_pos Kf]
def Dx (K:aP) (C:Addr):Sp:=fun vs H Q _=>∃k o m a x y r1 r2,vs=[.int k,.int o,.int m,.ref a]∧(fQ K H a [x,y] [r1,r2])∧((0≤k∧0≤o∧0≤m)∧(BF.cS r1∧BF.cS r2)∧r1.length≤20000)∧∀l H',H l=none→aI H H'→H' l=some (.lst (fg (NumNeutral.step NumCalls.start [[12,k,o,m],r1,r2]).2))→Q (.ref l) H'
theorem mZ:aD ["kind","order","mode","rows","numbers","others"] ["kind","order","mode","rows"] (ay (top 165)):=bz
theorem ED (ak:Ev K mg C C2 C3):cw P w K mg base "answer_dot" ["kind","order","mode","rows"] 9 (Dx K C):=by
 have T:=ak.T;refine cQ (ak.df 108) mZ Xb (Xd fun f bw A outer s H Q E hr k o m a x y r1 r2 h=>?_);obtain⟨o1,⟨⟨hk,ho,hm⟩,⟨b1,b2⟩,hl⟩,q⟩:=h;refine⟨_,ah (aS (cy (PW.pt (dj (iY (aQ (pf (pI ak) hr (aa (pv 0) (aa (pv 1) (aa (pv 2) (aa (ek aZ (pv 3) (al)) (ae)))))))) (dQ (b8 Gx (bW cx rfl T.iq PySem.boot_len (aa (ek aZ (pv 3) (al)) (ae))) (bW cx rfl T.iq PySem.boot_len (aa (ek aZ (pv 3) (al)) (ae)))))))) (aj (aq (dw (aa (aG T.gS rfl) (ae))))) (aB)) (ah (sv 4 mZ.nd (pf (kE ak) hr (aa (pv 0) (aa (ek aZ (pv 3) (al)) (ae))))) (ah (sv 5 mZ.nd (pf (kE ak) hr (aa (pv 0) (aa (ek aZ (pv 3) (al)) (ae))))) (aj (aq (pf (ed ak) hr (aa (pv 0) (aa (pf (vn ak) hr (aa (pv 0) (aa (pv 1) (aa (pv 2) (aa (pv 4) (aa (pv 5) (ae))))))) (ae)))))))),⟨(!FH k o m r1||!decide (((fg r1).length:Int)=((fg r2).length:Int))),ax rfl rfl rfl rfl (il rfl rfl ((o1)).sq rfl (jY rfl ((o1.row 0 _ _ rfl rfl)) ⟨?p1,bg rfl (aK (fun h2=>?d1) (fun h2=>bT rfl rfl rfl ((o1)).sq rfl (ck rfl (.inl ((o1.row 0 _ _ rfl rfl))) rfl (il rfl rfl ((o1)).sq rfl (bG rfl (.inl ((o1.row 1 _ _ rfl rfl))) (ck rfl rfl rfl ?d2))))))⟩)),aK (fun h1=>⟨(by show _≤sizeLine;decide),fun l1 dC=>q _ _ ((aI.refl _).free dC) ((ai dC)) (b4 (aL) ?r1)⟩) (fun h1=>aR rfl rfl (il rfl rfl ((o1)).sq rfl (jr rfl ((o1.row 0 _ _ rfl rfl)) ?p2 (fun a2 H2 s2 x2=>aR rfl rfl (il rfl rfl ((((o1).same s2)).sq) rfl (jr rfl ((s2).seq ((o1.row 1 _ _ rfl rfl))) ?p3 (fun a3 H3 s3 x3=>ax rfl rfl rfl rfl (aR rfl rfl ⟨_,_,_,_,_,_,_,rfl,(bU.of ((s3 _ _ (x2)))),(bU.of (x3)),?p4,bG rfl ?p5 (fun a4 H4 n4 s4 x4=>q _ _ (((s2).trans s3).free n4) (((s2).trans s3).trans s4) (b4 (x4) ?r2))⟩))))))))⟩⟩
 case p1=>exact⟨⟨hk,ho,hm⟩,hl⟩
 case d1=>exact⟨by rw[h2];rfl,rfl⟩
 case d2=>exact⟨by rw[nt h2];rfl,rfl⟩
 all_goals unfold FH at h1
 all_goals simp only[bR,fF,dG,aF] at h1
 case r1 =>
  rw[BF.Ay _ hk ho hm b1 b2];dsimp only;rw[if_neg Kf];rfl
 all_goals have JB:=BF.gz k
 case p2=>exact⟨⟨hk,Kf⟩,b1,Kf,Kf⟩
 case p3=>exact⟨⟨hk,Kf⟩,b2,by rw[←show r1.length=r2.length by omega];omega,Kf⟩
 case p4 =>
  refine⟨⟨hm,Kf⟩,⟨hk,Kf⟩,Kf,yy b1 Kf,yy b2 (by rw[←show r1.length=r2.length by omega];omega),?_,?_⟩
  ·rw[aF,BF.chunk_len];exact JO Kf
  ·rw[aF,BF.chunk_len,aF,BF.chunk_len,show r2.length=r1.length by omega]
 case p5=>exact⟨⟨hk,Kf⟩,fK _⟩
 case r2 =>
  rw[BF.Ay _ hk ho hm b1 b2,Int.toNat_natCast];dsimp only;rw[if_pos Kf]
end
theorem gk.same {C C2:Addr} {H H':Hp} {b:Addr} {u:BF.Ex} (h:gk C C2 H b u) (s:aI H H'):gk C C2 H' b u:=by
 obtain⟨dx,a,e,x⟩:=h;exact⟨dx,a,s _ _ e,x.same s⟩
theorem gk.some {C C2:Addr} {H:Hp} {b:Addr} {u:BF.Ex} (h:gk C C2 H b u):∃o,H b=Option.some o:=let ⟨_,_,e,_⟩:=h;⟨_,e⟩
theorem SB.free {b l:Addr} {H H1:Hp} (sb:SB b H H1) (hb:∃o,H1 b=some o) (hl:H1 l=none):H l=none:=by
 cases e:H l with
 | none=>rfl
 | some o =>
  by_cases c:l=b
  ·subst c;obtain⟨o1,e1⟩:=hb;rw[hl] at e1;cases e1
  ·have:=sb l o e c;rw[hl] at this;cases this
theorem SB.trans {b:Addr} {H H1 H2:Hp} (sb:SB b H H1) (s:aI H1 H2):SB b H H2:=fun c o e n=>s c o (sb c o e n)
theorem M4 {b:Addr} {H H1 H2:Hp} (s:aI H H1) (sb:SB b H1 H2):SB b H H2:=fun c o e n=>sb c o (s c o e) n
theorem oj {b:Addr} {H H1:Hp} (s:aI H H1):SB b H H1:=fun c o e _=>s c o e
theorem OW {r:List Int} (h:BF.cS r):fg r=dZ (NumNeutral.bytes r):=by
 have:=a7 fg (BF.wx h);rw[←this];show List.map V.int (List.map _ _)=_;rw[js];rfl
theorem R8 {k:Int} {r1 r2:List Int}:kH k (if r2=[] then [r1] else [r1,r2])=true↔k≤3∧(r1.length:Int)=BF.nb (BF.fm k)∧(r2≠[]→(r2.length:Int)=BF.nb (BF.fm k)):=by
 split
 ·next h=>rw[jZ];simp[h]
 ·next h=>rw[j0];simp[h]
theorem get_eq {k m:Int} {st:Lw.LongSum} {u:BF.Ex} (rl:BF.Rel st u):(if BF.bC u=true then BF.ws (BF.fm k) (BF.md m).isDown 0 else ((BF.fm k).ofKind (BF.md m) u.kind:Nat))=((st.get (BF.fm k) (BF.md m):Nat):Int):=by
 rw[BF.IE _ _ rl];split
 ·exact(BF.o5 _ _).symm
 ·rfl
theorem G7 {k:Int} {m:Lw.Mode} {b:Lw.Bytes} {z:Int} (h:BF.jm (BF.fm k) m b=some z):0≤z:=by
 rw[←BF.uq (BF.fm k) (BF.dk k)] at h;cases e:Lw.readFloat (BF.fm k) m b with
 | none=>rw[e] at h;cases h
 | some x =>
  rw[e] at h;injection h with h
  rw[←h];exact fK _
theorem AB.mono {n m:Nat} {u:BF.Ex} (h:AB n u) (hm:n≤m):AB m u:={ h with sz:=tP h.sz (i4 (iV.mpr hm) (bo (BF.aX _))) }
theorem OX (n:Nat):AB n (BF.gI 0):=tI.mono (iA _)
section
variable {X:Cx} {C C2:Addr} {k:Nat} {p pos apos:Pos} {e o:Expr} {es:List Expr} {t:TA} {ta:TE}
def U2 (C C2:Addr) (ta:TE) (t:TA):TE:=fun σ H Q=>ta σ H fun x H1=>∃b u,x=.ref b∧gk C C2 H1 b u∧t σ H1 fun vs H2=>∃a v,vs=[.ref a]∧gk C C2 H2 b u∧eP C H2 a v∧(EB u∧EB v)∧∀H':Hp,gk C C2 H' b (BF.cG .near u v)→SB b H2 H'→Q .fU H'
def U3 (C C2:Addr) (ta:TE) (t:TA):TE:=fun σ H Q=>ta σ H fun x H1=>∃b u,x=.ref b∧gk C C2 H1 b u∧t σ H1 fun vs H2=>∃k m,vs=[.int k,.int m]∧gk C C2 H2 b u∧(VK k∧VM m∧PB u)∧Q (.int (if BF.bC u=true then BF.ws (BF.fm k) (BF.md m).isDown 0 else ((BF.fm k).ofKind (BF.md m) u.kind:Nat))) H2
def R9 (C C2:Addr) (ta:TE):TE:=fun σ H Q=>ta σ H fun x H1=>∃b u,x=.ref b∧gk C C2 H1 b u∧∀H':Hp,gk C C2 H' b (BF.gI 0)→SB b H1 H'→Q .fU H'
theorem FI (h:vj X.prog X.w X.K X.mg X.base C C2) (hr:fj k X.A) (hk:5≤k) (he:PE X o ta) (ha:PA X (e::es) t)
  (qO:starEach (e::es) X.env=(false,eval e X.env)::starEach es X.env:=by rfl) (gG:(backTo pos (starEach es X.env)).any (·.1)=false:=by rfl) {pl:Sem Bool}
  (ht:eval (.Call (.Attribute o "take" apos) (e::es) [] pos) X.env=(do
   let ov ←eval o X.env
   standAt apos.atName
   let (f,first) ←holding [ov] (getMethod ov "take" pl)
   callWith pos f first (backTo pos (starEach (e::es) X.env)) (backToKw pos (keywordEach [] X.env))):=by rfl):PE X (.Call (.Attribute o "take" apos) (e::es) [] pos) (U2 C C2 ta t):=by
 obtain⟨f,fd,hm,F,hb⟩:=h.take;intro pins s σ H Q I hw;refine PySem.W.methodCall_KW (pl:=pl) (dz (he pins s σ H _ I hw) fun u s1 ⟨x,H1,I1,rx,b,v,ex,⟨dx,a0,eb,xa⟩,q⟩=>?_) ht;subst ex;obtain rfl:u=Value.ref b:=rx;refine nL I1 eb h.c.cl hm rfl ?_;refine PySem.W.callWith_K (first:=[.ref b]) (h₀:=X.base) I.ok.mod.vD hm.kp (dz (ha pos pins s1 σ H1 _ I1 q) fun us s2 ⟨vs,H2,I2,r,a,y,ev,ac,ie,eb2,q2⟩=>⟨I2.qM,?_⟩) qO gG;subst ev;exact sJ (us:=.ref b::us) (vs:=[.ref b,.ref a]) (E:=E0) F (hr.mono hk) hb .nil qb I2 (.cons rfl r) ⟨b,a,_,_,rfl,ac,ie,eb2,q2⟩
theorem OY (h:vj X.prog X.w X.K X.mg X.base C C2) (hr:fj k X.A) (hk:5≤k) (he:PE X o ta) (ha:PA X (e::es) t)
  (qO:starEach (e::es) X.env=(false,eval e X.env)::starEach es X.env:=by rfl) (gG:(backTo pos (starEach es X.env)).any (·.1)=false:=by rfl) {pl:Sem Bool}
  (ht:eval (.Call (.Attribute o "rounded_once" apos) (e::es) [] pos) X.env=(do
   let ov ←eval o X.env
   standAt apos.atName
   let (f,first) ←holding [ov] (getMethod ov "rounded_once" pl)
   callWith pos f first (backTo pos (starEach (e::es) X.env)) (backToKw pos (keywordEach [] X.env))):=by rfl):PE X (.Call (.Attribute o "rounded_once" apos) (e::es) [] pos) (U3 C C2 ta t):=by
 obtain⟨f,fd,hm,F,hb⟩:=h.once;intro pins s σ H Q I hw;refine PySem.W.methodCall_KW (pl:=pl) (dz (he pins s σ H _ I hw) fun u s1 ⟨x,H1,I1,rx,b,v,ex,⟨dx,a0,eb,xa⟩,q⟩=>?_) ht;subst ex;obtain rfl:u=Value.ref b:=rx;refine nL I1 eb h.c.cl hm rfl ?_;refine PySem.W.callWith_K (first:=[.ref b]) (h₀:=X.base) I.ok.mod.vD hm.kp (dz (ha pos pins s1 σ H1 _ I1 q) fun us s2 ⟨vs,H2,I2,r,kk,mm,ev,ac,pb,q2⟩=>⟨I2.qM,?_⟩) qO gG;subst ev;exact sJ (us:=.ref b::us) (vs:=[.ref b,.int kk,.int mm]) (E:=E0) F (hr.mono hk) hb .nil qb I2 (.cons rfl r) ⟨b,_,kk,mm,rfl,ac,pb,q2⟩
theorem L6 (h:vj X.prog X.w X.K X.mg X.base C C2) (hr:fj k X.A) (hk:5≤k) (he:PE X o ta) {pl:Sem Bool}
  (ht:eval (.Call (.Attribute o "make_empty" apos) [] [] pos) X.env=(do
   let ov ←eval o X.env
   standAt apos.atName
   let (f,first) ←holding [ov] (getMethod ov "make_empty" pl)
   callWith pos f first (backTo pos (starEach [] X.env)) (backToKw pos (keywordEach [] X.env))):=by rfl):PE X (.Call (.Attribute o "make_empty" apos) [] [] pos) (R9 C C2 ta):=by
 obtain⟨f,fd,hm,F,hb⟩:=h.empty;intro pins s σ H Q I hw;refine PySem.W.methodCall_KW (pl:=pl) (dz (he pins s σ H _ I hw) fun u s1 ⟨x,H1,I1,rx,b,v,ex,⟨dx,a0,eb,xa⟩,q⟩=>?_) ht;subst ex;obtain rfl:u=Value.ref b:=rx;refine nL I1 eb h.c.cl hm rfl ?_;exact PySem.W.callWith_K0 (first:=[.ref b]) I1.qM hm.kp (sJ (us:=[.ref b]) (vs:=[.ref b]) (E:=E0) F (hr.mono hk) hb .nil qb I1 (.cons rfl .nil) ⟨b,_,rfl,⟨dx,a0,eb,xa⟩,q⟩)
end
section
variable {P:Program} {w:World} {K:aP} {mg:Str→Option Value} {base:Heap} {C C2 C3:Addr}
def Ad (K:aP) (C C3:Addr):Sp:=fun vs H Q _=>∃k m a r,vs=[.int k,.int m,.ref a]∧(bU K H a (fg r))∧((0≤k∧0≤m)∧BF.cS r∧r.length≤20000)∧∀l H',H l=none→aI H H'→H' l=some (.lst (fg (NumNeutral.step NumCalls.start [[7,k,m],r]).2))→Q (.ref l) H'
theorem qL:aD ["kind","mode","text","bits"] ["kind","mode","text"] (ay (top 158)):=bz
theorem Dy (ak:Ev K mg C C2 C3):cw P w K mg base "answer_read" ["kind","mode","text"] 6 (Ad K C C3):=by
 have T:=ak.T;refine cQ (ak.df 101) qL qS (qT fun f bw A outer s H Q E hr k m a r h=>?_);obtain⟨o1,⟨⟨hk,hm⟩,hb,hl⟩,q⟩:=h;have o2:=Q1 o1 (OW hb);refine⟨_,ah (aS (cy (PW.pt (dj (b8 eX (pv 0) (aG T.kS rfl)) (dj (b8 eX (pv 1) (aG T.g7 rfl)) (dQ (b8 eX (bW cx rfl T.iq PySem.boot_len (aa (pv 2) (ae))) (aG T.D0 rfl))))))) (aj (aq (dw (aa (aG T.gS rfl) (ae))))) (aB)) (ah (QZ ak.no rfl rfl rfl (fun pn W E hp=>aj (sv 3 qL.nd (Xw (UZ ak) hr hp (aa (pv 0) (aa (pv 1) (aa (pv 2) (ae))))))) (fun v=>aj (aq (dw (aa (aG T.Lk rfl) (ae)))))) (aj (aq (pf (ed ak) hr (aa (pv 0) (aa (pv 3) (ae))))))),⟨(decide (3<k)||(decide (4<m)||decide (60<((dZ (NumNeutral.bytes r)).length:Int)))),aE rfl rfl rfl rfl (aK (fun h2=>?d1) (fun h2=>aE rfl rfl rfl rfl (aK (fun h3=>?d2) (fun h3=>bP rfl rfl (.inl (o2)) (ck rfl rfl rfl ?d3))))),aK (fun h1=>⟨(by show _≤sizeLine;decide),fun l1 dC=>q _ _ ((aI.refl _).free dC) ((ai dC)) (b4 (aL) ?r1)⟩) (fun h1=>aW rfl rfl rfl (gj rfl (o2) ?p1 ⟨fun z2 U4=>br rfl rfl rfl ?p2 (fun a4 H4 n4 s4 x4=>q _ _ ((aI.refl _).free n4) (s4) (b4 (x4) ?r3)),fun U4=>⟨(by show _≤sizeLine;decide),fun l3 iX=>q _ _ ((aI.refl _).free iX) ((ai iX)) (b4 (aL) ?r2)⟩⟩))⟩⟩
 case d1=>exact⟨by rw[h2];rfl,rfl⟩
 case d2=>exact⟨by rw[nt h2,h3];rfl,rfl⟩
 case d3=>exact⟨by rw[nt h2,nt h3];rfl,rfl⟩
 all_goals simp only[bR,dG,aF,BF.iE] at h1
 case r1 =>
  rw[BF.rN _ hk hm];dsimp only;rw[if_neg Kf];rfl
 case p1=>exact⟨⟨hk,Kf⟩,⟨hm,Kf⟩,by rw[BF.iE];omega⟩
 case p2=>exact⟨⟨hk,Kf⟩,G7 U4⟩
 case r2 =>
  rw[BF.rN _ hk hm];dsimp only;rw[if_pos Kf,U4];rfl
 case r3 =>
  rw[BF.rN _ hk hm];dsimp only;rw[if_pos Kf,U4]
def yz (K:aP) (C C2:Addr):Sp:=fun vs H Q _=>∃b u,vs=[.ref b]∧(gk C C2 H b u)∧(True)∧∀l H',H l=none→gk C C2 H' b (BF.gI 0)→SB b H H'→H' l=some (.lst (fg [0]))→Q (.ref l) H'
theorem yA:aD ["accumulator"] ["accumulator"] (ay (top 159)):=bz
theorem Ae (ak:Ev K mg C C2 C3):cw P w K mg base "answer_clear" ["accumulator"] 6 (yz K C C2):=by
 have T:=ak.T;refine cQ (ak.df 102) yA lp (lr fun f bw A outer s H Q E hr b u h=>?_);obtain⟨o1,hp,q⟩:=h;refine⟨_,ah (mq (L6 (zj ak) hr J9 (pv 0))) (aj (aq (dw (aa (aG T.Jd rfl) (ae))))),bP rfl rfl (o1) (fun A1 ac1 sb1=>⟨(by show _≤sizeLine;decide),fun l2 fk=>?r1⟩)⟩
 case r1=>exact q _ _ (sb1.free ac1.some fk) (ac1.same (ai fk)) (sb1.trans (ai fk)) aL
def Dz (K:aP) (C C2:Addr):Sp:=fun vs H Q _=>∃b u st k m,vs=[.ref b,.int k,.int m]∧(gk C C2 H b u)∧((0≤k∧0≤m)∧BF.Rel st u∧PB u)∧∀l H',H l=none→aI H H'→H' l=some (.lst (fg (NumNeutral.step st [[10,k,m]]).2))→Q (.ref l) H'
theorem DA:aD ["accumulator","kind","mode"] ["accumulator","kind","mode"] (ay (top 161)):=bz
theorem EE (ak:Ev K mg C C2 C3):cw P w K mg base "answer_get" ["accumulator","kind","mode"] 6 (Dz K C C2):=by
 have T:=ak.T;refine cQ (ak.df 104) DA B0 (B3 fun f bw A outer s H Q E hr b u st k m h=>?_);obtain⟨o1,⟨⟨hk,hm⟩,rl,pb⟩,q⟩:=h;refine⟨_,ah (aS (cy (PW.pt (dj (b8 eX (pv 1) (aG T.kS rfl)) (dQ (b8 eX (pv 2) (aG T.g7 rfl)))))) (aj (aq (dw (aa (aG T.gS rfl) (ae))))) (aB)) (aj (aq (pf (ed ak) hr (aa (pv 1) (aa (OY (zj ak) hr J9 (pv 0) (aa (pv 1) (aa (pv 2) (ae)))) (ae)))))),⟨(decide (3<k)||decide (4<m)),aE rfl rfl rfl rfl (aK (fun h2=>?d1) (fun h2=>aE rfl rfl rfl rfl ?d2)),aK (fun h1=>⟨(by show _≤sizeLine;decide),fun l1 dC=>q _ _ ((aI.refl _).free dC) ((ai dC)) (b4 (aL) ?r1)⟩) (fun h1=>bx rfl rfl rfl (o1) rfl (eJ rfl rfl (o1) ?p1 (bG rfl ?p2 (fun a3 H3 n3 s3 x3=>q _ _ ((aI.refl _).free n3) (s3) (b4 (x3) ?r2)))))⟩⟩
 case d1=>exact⟨by rw[h2];rfl,rfl⟩
 case d2=>exact⟨by rw[nt h2];rfl,rfl⟩
 all_goals simp only[bR,dG] at h1
 case r1 =>
  rw[BF.Aw _ hk hm];dsimp only;rw[if_neg Kf];rfl
 case p1=>exact⟨⟨hk,Kf⟩,⟨hm,Kf⟩,pb⟩
 all_goals have eg:=get_eq (k:=k) (m:=m) rl
 case p2=>exact⟨⟨hk,Kf⟩,by rw[eg];exact fK _⟩
 case r2 =>
  rw[BF.Aw _ hk hm,eg,Int.toNat_natCast];dsimp only;rw[if_pos Kf]
def DB (K:aP) (C C2:Addr):Sp:=fun vs H Q _=>∃b u st n k a x y r1 r2,vs=[.ref b,.int k,.ref a]∧(gk C C2 H b u)∧(fQ K H a [x,y] [r1,r2])∧((0≤k∧BF.cS r1∧BF.cS r2)∧BF.Rel st u∧AB n u∧n≤1000)∧∀l H' u',H l=none→gk C C2 H' b u'→BF.Rel (NumNeutral.step st [[9,k],r1,r2]).1 u'→AB (n+1) u'→SB b H H'→H' l=some (.lst (fg (NumNeutral.step st [[9,k],r1,r2]).2))→Q (.ref l) H'
theorem m4:aD ["accumulator","kind","rows","looked_at","a"] ["accumulator","kind","rows"] (ay (top 160)):=bz
theorem EF (ak:Ev K mg C C2 C3):cw P w K mg base "answer_add" ["accumulator","kind","rows"] 6 (DB K C C2):=by
 have T:=ak.T;refine cQ (ak.df 103) m4 VO (VP fun f bw A outer s H Q E hr b u st n k a x y r1 r2 h=>?_);obtain⟨o1,o2,⟨⟨hk,b1,b2⟩,rl,ab,hn⟩,q⟩:=h;refine⟨_,ah (sv 3 m4.nd (wG (b9 (b8 (jG hr.units) (ek aZ (pv 2) (al)) (dw (ae))) (eV fW (pv 2) (i8) (dS (al))) (pv 2)))) (ah (aS (iY (aQ (pf (iH ak) hr (aa (pv 1) (aa (pv 3) (ae)))))) (aj (aq (dw (aa (aG T.gS rfl) (ae))))) (aB)) (ah (sv 4 m4.nd (pf (dq ak) hr (aa (ek aZ (pv 2) (al)) (ae)))) (ah (aS (b8 (jG hr.units) (ek aZ (pv 2) (al)) (dw (ae))) (aj (mq (FI (zj ak) hr J9 (pv 0) (aa (pf (bA ak) hr (aa (pv 1) (aa (pv 4) (ae)))) (ae))))) (aj (mq (FI (zj ak) hr J9 (pv 0) (aa (pf (pG ak) hr (aa (pv 1) (aa (pv 4) (aa (pf (dq ak) hr (aa (ek aZ (pv 2) (al)) (ae))) (ae))))) (ae)))))) (aj (aq (dw (aa (aG T.Jd rfl) (ae)))))))),⟨(fun l H'=>aI _ H'∧fQ K H' l (if r2=[] then [x] else [x,y]) (if r2=[] then [r1] else [r1,r2])),bT rfl rfl rfl ((o2)).sq rfl ⟨(by show _≤sizeLine;decide),fun l1 dC=>px rfl rfl (((ai dC)).seq ((o2.row 1 _ _ rfl rfl))) (bU.of (aL)) (by first | exact dN _ | exact dg _ | exact⟨[],rfl⟩ | exact⟨[_],rfl⟩ | exact⟨_,rfl⟩) (by first | exact dN _ | exact dg _ | exact⟨[],rfl⟩ | exact⟨[_],rfl⟩ | exact⟨_,rfl⟩) (bg rfl (aK (fun h1=>br rfl rfl rfl ((((o2).same (ai dC))).sq) (fun l2 fk=>⟨_,rfl,((ai dC)).trans (ai fk),?d1⟩)) (fun h1=>bg rfl ⟨_,rfl,(ai dC),?d2⟩)))⟩,fun l3 M3 ⟨m3,y3⟩=>aR rfl rfl (gj rfl (y3) ?p1 (bg rfl (aK (fun h2=>⟨(by show _≤sizeLine;decide),fun l4 j5=>?r1⟩) (fun h2=>bT rfl rfl rfl ((((o2).same m3)).sq) rfl (bJ rfl ((m3).seq ((o2.row 0 _ _ rfl rfl))) ?p2 (bT rfl rfl rfl ((((o2).same m3)).sq) rfl ⟨(by show _≤sizeLine;decide),fun l5 oB=>px rfl rfl (((ai oB)).seq ((m3).seq ((o2.row 1 _ _ rfl rfl)))) (bU.of (aL)) (by first | exact dN _ | exact dg _ | exact⟨[],rfl⟩ | exact⟨[_],rfl⟩ | exact⟨_,rfl⟩) (by first | exact dN _ | exact dg _ | exact⟨[],rfl⟩ | exact⟨[_],rfl⟩ | exact⟨_,rfl⟩) (bg rfl (aK (fun h3=>aE rfl rfl (((o1).same m3).same (ai oB)) rfl (bP rfl rfl ?p3 (fun a6 H6 s6 x6=>bJ rfl ((((o1).same m3).same (ai oB)).same s6) (x6) ⟨?p4,fun A7 ac7 sb7=>⟨(by show _≤sizeLine;decide),fun l8 Dd=>?r2⟩⟩))) (fun h3=>aE rfl rfl (((o1).same m3).same (ai oB)) rfl (aR rfl rfl (il rfl rfl (((((o2).same m3).same (ai oB))).sq) rfl (bJ rfl (((ai oB)).seq ((m3).seq ((o2.row 1 _ _ rfl rfl)))) ?p5 (eZ rfl ?p6 (fun a9 H9 s9 x9=>bJ rfl ((((o1).same m3).same (ai oB)).same s9) (x9) ⟨?p7,fun A10 VU aaY=>⟨(by show _≤sizeLine;decide),fun l11 pH=>?r3⟩⟩))))))))⟩))))))⟩⟩
 case d1 =>
  have e:r2=[]:=List.map_eq_nil_iff.mp (ft.mp h1);rw[ao e,ao e];exact M1 (o2.same (ai (by assumption))) (by assumption)
 case d2 =>
  have e:¬r2=[]:=fun z=>h1 (by rw[z];rfl);rw[ag e,ag e];exact o2.same (ai (by assumption))
 case p1=>exact⟨hk,by split<;>exact yG rfl⟩
 all_goals simp only[fF,R8] at h2
 case r1 =>
  have e:=BF.Gr st hk b1 b2;rw[ag h2] at e;exact q _ _ u (m3.free j5) (o1.same (m3.trans (ai j5))) (by rw[e];exact rl) (ab.mono Kf) (oj (m3.trans (ai j5))) (by rw[e];exact aL)
 all_goals have tS:=Classical.not_not.mp h2
 all_goals have JP:=gE hk tS.1 b1 tS.2.1
 all_goals have n1:=(BF.gR b1).1
 all_goals have n2:=(BF.gR b2).1
 all_goals have l1:=BF.ph k b1 tS.2.1
 all_goals have e:=BF.Gr st hk b1 b2
 all_goals rw[ao tS] at e
 case p2=>exact⟨b1,mX (k:=k) tS.2.1⟩
 case p3=>exact JP
 case p4=>exact⟨(ab.pb Kf).eb,(GY JP).eb J9 J9 J9⟩
 case r2 =>
  have z:r2=[]:=List.map_eq_nil_iff.mp (ft.mp h3);rw[ao z] at e;have sb:=M4 (m3.trans ((ai oB).trans s6)) sb7;refine q _ _ _ (sb.free ac7.some Dd) (ac7.same (ai Dd)) ?_ (CV (m:=.near) ab (GY JP)) (sb.trans (ai Dd)) (by rw[e];exact aL);rw[e];have:=BF.BQ rl (v:=BF.ta (BF.fm k) (BF.cj r1)) (GY JP).1;rw[←fz n1,BF.cX _ _ l1] at this;rw[fz n1] at this;exact this
 all_goals have z:¬r2=[]:=fun z=>h3 (by rw[z];rfl)
 all_goals have U5:=gE hk tS.1 b2 (tS.2.2 z)
 all_goals have l2:=BF.ph k b2 (tS.2.2 z)
 all_goals rw[ag z] at e
 case p5=>exact⟨b2,mX (k:=k) (tS.2.2 z)⟩
 case p6=>exact⟨JP,U5⟩
 case p7=>exact⟨(ab.pb Kf).eb,(w9 JP U5).eb J9 J9 J9⟩
 case r3 =>
  have sb:=M4 (m3.trans ((ai oB).trans s9)) aaY;refine q _ _ _ (sb.free VU.some pH) (VU.same (ai pH)) ?_ (CV (m:=.near) ab (w9 JP U5)) (sb.trans (ai pH)) (by rw[e];exact aL);rw[e];have:=BF.BQ rl (v:=BF.gr (BF.ta (BF.fm k) (BF.cj r1)) (BF.ta (BF.fm k) (BF.cj r2))) (w9 JP U5).1;rw[BF.nQ] at this;have k1:=BF.cX (BF.fm k) _ l1;have k2:=BF.cX (BF.fm k) _ l2;rw[fz n1] at k1;rw[fz n2] at k2;rw[k1,k2] at this;exact this
end
theorem cD {tc:TT} {t u:TS} {D:Ends} {σ:L2.St} {H:Hp} {b:Bool} (hc:∀Q:Bool→Hp→Prop,Q b H→tc σ H Q) (hb:¬b=true) (h:u D σ H):Pl (Pn tc t Kh) u D σ H:=hc _ (by rw[ag hb];exact h)
theorem xy {tc:TT} {t u:TS} {D:Ends} {σ:L2.St} {H:Hp} {b:Bool} (hc:∀Q:Bool→Hp→Prop,Q b H→tc σ H Q) (hb:b=true) (h:t (D.on u) σ H):Pl (Pn tc t Kh) u D σ H:=hc _ (by rw[ao hb];exact h)
theorem FJ {as:List Addr} {u:List Int} (h:as.length=[u].length):∃x,as=[x]:=match as,h with
 | [x],_=>⟨x,rfl⟩
theorem JQ {as:List Addr} {u v:List Int} (h:as.length=[u,v].length):∃x y,as=[x,y]:=match as,h with
 | [x,y],_=>⟨x,y,rfl⟩
theorem aaZ {as:List Addr} {u v r:List Int} (h:as.length=[u,v,r].length):∃x y z,as=[x,y,z]:=match as,h with
 | [x,y,z],_=>⟨x,y,z,rfl⟩
section
variable {P:Program} {w:World} {K:aP} {mg:Str→Option Value} {base:Heap} {C C2 C3:Addr}
def G8 (K:aP) (C C2 C3:Addr):Sp:=fun vs H Q _=>∃b u st n p aw ar as W R,vs=[.ref b,.int p,.ref aw,.ref ar]∧gk C C2 H b u∧bU K H aw (fg W)∧fQ K H ar as R∧(BF.Ask ((p::W)::R)∧BF.Rel st u∧AB n u∧n≤1000)∧∀l H' u',H l=none→gk C C2 H' b u'→BF.Rel (NumNeutral.step st ((p::W)::R)).1 u'→AB (n+1) u'→SB b H H'→H' l=some (.lst (fg (NumNeutral.step st ((p::W)::R)).2))→Q (.ref l) H'
theorem G9:aD ["accumulator","number","wholes","rows"] ["accumulator","number","wholes","rows"] (ay (top 147)):=bz
theorem JR (ak:Ev K mg C C2 C3):cw P w K mg base "answered" ["accumulator","number","wholes","rows"] 12 (G8 K C C2 C3):=by
 have T:=ak.T;refine cQ (ak.df 90) G9 VO (VP fun f bw A outer s H Q E hr b u st n p aw ar as W R h=>?_);obtain⟨o1,o2,o3,⟨ask,rl,ab,hn⟩,q⟩:=h;refine⟨_,ah (aS (b8 bp (pv 1) (al)) (aj (aq (pf (G5 ak) hr (aa (ek aZ (pv 2) (al)) (aa (ek aZ (pv 2) (al)) (aa (ek aZ (pv 2) (al)) (aa (pv 3) (ae)))))))) (aB)) (ah (aS (b8 bp (pv 1) (al)) (aj (aq (pf (Ez ak) hr (aa (ek aZ (pv 2) (al)) (aa (ek aZ (pv 2) (al)) (aa (pv 3) (ae))))))) (aB)) (ah (aS (b8 bp (pv 1) (al)) (aj (aq (pf (z5 ak) hr (aa (ek aZ (pv 2) (al)) (aa (ek aZ (pv 2) (al)) (aa (ek aZ (pv 2) (al)) (aa (pv 3) (ae)))))))) (aB)) (ah (aS (b8 bp (pv 1) (al)) (aj (aq (pf (Dn ak) hr (aa (ek aZ (pv 2) (al)) (aa (ek aZ (pv 2) (al)) (aa (ek aZ (pv 2) (al)) (aa (pv 3) (ae)))))))) (aB)) (ah (aS (b8 bp (pv 1) (al)) (aj (aq (pf (G6 ak) hr (aa (ek aZ (pv 2) (al)) (aa (ek aZ (pv 2) (al)) (aa (ek aZ (pv 2) (al)) (aa (pv 3) (ae)))))))) (aB)) (ah (aS (b8 bp (pv 1) (al)) (aj (aq (pf (Ey ak) hr (aa (ek aZ (pv 2) (al)) (aa (ek aZ (pv 2) (al)) (aa (pv 3) (ae))))))) (aB)) (ah (aS (b8 bp (pv 1) (al)) (aj (aq (pf (Ds ak) hr (aa (ek aZ (pv 2) (al)) (aa (pv 3) (ae)))))) (aB)) (ah (aS (b8 bp (pv 1) (al)) (aj (aq (pf (Dy ak) hr (aa (ek aZ (pv 2) (al)) (aa (ek aZ (pv 2) (al)) (aa (ek aZ (pv 3) (al)) (ae))))))) (aB)) (ah (aS (b8 bp (pv 1) (al)) (aj (aq (pf (Ae ak) hr (aa (pv 0) (ae))))) (aB)) (ah (aS (b8 bp (pv 1) (al)) (aj (aq (pf (EF ak) hr (aa (pv 0) (aa (ek aZ (pv 2) (al)) (aa (pv 3) (ae))))))) (aB)) (ah (aS (b8 bp (pv 1) (al)) (aj (aq (pf (EE ak) hr (aa (pv 0) (aa (ek aZ (pv 2) (al)) (aa (ek aZ (pv 2) (al)) (ae))))))) (aB)) (ah (aS (b8 bp (pv 1) (al)) (aj (aq (pf (EC ak) hr (aa (ek aZ (pv 2) (al)) (aa (ek aZ (pv 2) (al)) (aa (ek aZ (pv 2) (al)) (aa (pv 3) (ae)))))))) (aB)) (ah (aS (b8 bp (pv 1) (al)) (aj (aq (pf (ED ak) hr (aa (ek aZ (pv 2) (al)) (aa (ek aZ (pv 2) (al)) (aa (ek aZ (pv 2) (al)) (aa (pv 3) (ae)))))))) (aB)) (ah (aS (b8 bp (pv 1) (al)) (aj (aq (pf (Ab ak) hr (aa (ek aZ (pv 2) (al)) (aa (ek aZ (pv 2) (al)) (aa (ek aZ (pv 2) (al)) (aa (ek aZ (pv 2) (al)) (aa (pv 3) (ae))))))))) (aB)) (aj (aq (pf (Ac ak) hr (aa (ek aZ (pv 2) (al)) (aa (ek aZ (pv 2) (al)) (aa (ek aZ (pv 2) (al)) (ae)))))))))))))))))))),?_⟩;cases ask with
 | op a1 a2 a3 u1 u2 ha hb hc b1 b2 =>
  obtain⟨x1,x2,rfl⟩:=JQ o3.len;have fr:=BF.QL ha hb hc b1 b2;refine xy (fun _ q=>⟨_,rfl,_,_,rfl,rfl,_,rfl,q⟩) J9 (bT rfl rfl rfl (o2) rfl (bT rfl rfl rfl (o2) rfl (bT rfl rfl rfl (o2) rfl (bg rfl ⟨_,_,_,_,_,_,_,_,rfl,(o3),?p1,fun a1 H1 n1 s1 x1=>?r1⟩))))
  case p1=>exact⟨⟨ha,hb,hc⟩,b1,b2⟩
  case r1=>exact q _ _ u n1 (o1.same s1) (by rw[fr st];exact rl) (ab.mono Kf) (oj s1) (b4 x1 (by rw[fr st]))
 | fma a1 a2 u1 u2 u3 ha hb b1 b2 b3 =>
  obtain⟨x1,x2,x3,rfl⟩:=aaZ o3.len;have fr:=BF.Oe ha hb b1 b2 b3;refine cD (fun _ q=>⟨_,rfl,_,_,rfl,rfl,_,rfl,q⟩) J9 (xy (fun _ q=>⟨_,rfl,_,_,rfl,rfl,_,rfl,q⟩) J9 (bT rfl rfl rfl (o2) rfl (bT rfl rfl rfl (o2) rfl (bg rfl ⟨_,_,_,_,_,_,_,_,_,rfl,(o3),?p1,fun a1 H1 n1 s1 x1=>?r1⟩))))
  case p1=>exact⟨⟨ha,hb⟩,b1,b2,b3⟩
  case r1=>exact q _ _ u n1 (o1.same s1) (by rw[fr st];exact rl) (ab.mono Kf) (oj s1) (b4 x1 (by rw[fr st]))
 | scale a1 a2 a3 u1 ha hb b1 =>
  obtain⟨x1,rfl⟩:=FJ o3.len;have fr:=BF.IX (e:=a3) ha hb b1;refine cD (fun _ q=>⟨_,rfl,_,_,rfl,rfl,_,rfl,q⟩) J9 (cD (fun _ q=>⟨_,rfl,_,_,rfl,rfl,_,rfl,q⟩) J9 (xy (fun _ q=>⟨_,rfl,_,_,rfl,rfl,_,rfl,q⟩) J9 (bT rfl rfl rfl (o2) rfl (bT rfl rfl rfl (o2) rfl (bT rfl rfl rfl (o2) rfl (bg rfl ⟨_,_,_,_,_,_,rfl,(o3),?p1,fun a1 H1 n1 s1 x1=>?r1⟩))))))
  case p1=>exact⟨⟨ha,hb⟩,b1⟩
  case r1=>exact q _ _ u n1 (o1.same s1) (by rw[fr st];exact rl) (ab.mono Kf) (oj s1) (b4 x1 (by rw[fr st]))
 | conv a1 a2 a3 u1 ha hb hc b1 =>
  obtain⟨x1,rfl⟩:=FJ o3.len;have fr:=BF.Lb ha hb hc b1;refine cD (fun _ q=>⟨_,rfl,_,_,rfl,rfl,_,rfl,q⟩) J9 (cD (fun _ q=>⟨_,rfl,_,_,rfl,rfl,_,rfl,q⟩) J9 (cD (fun _ q=>⟨_,rfl,_,_,rfl,rfl,_,rfl,q⟩) J9 (xy (fun _ q=>⟨_,rfl,_,_,rfl,rfl,_,rfl,q⟩) J9 (bT rfl rfl rfl (o2) rfl (bT rfl rfl rfl (o2) rfl (bT rfl rfl rfl (o2) rfl (bg rfl ⟨_,_,_,_,_,_,rfl,(o3),?p1,fun a1 H1 n1 s1 x1=>?r1⟩)))))))
  case p1=>exact⟨⟨ha,hb,hc⟩,b1⟩
  case r1=>exact q _ _ u n1 (o1.same s1) (by rw[fr st];exact rl) (ab.mono Kf) (oj s1) (b4 x1 (by rw[fr st]))
 | fn a1 a2 a3 u1 u2 ha hb hc b1 b2 =>
  obtain⟨x1,x2,rfl⟩:=JQ o3.len;have fr:=BF.QM ha hb hc b1 b2;refine cD (fun _ q=>⟨_,rfl,_,_,rfl,rfl,_,rfl,q⟩) J9 (cD (fun _ q=>⟨_,rfl,_,_,rfl,rfl,_,rfl,q⟩) J9 (cD (fun _ q=>⟨_,rfl,_,_,rfl,rfl,_,rfl,q⟩) J9 (cD (fun _ q=>⟨_,rfl,_,_,rfl,rfl,_,rfl,q⟩) J9 (xy (fun _ q=>⟨_,rfl,_,_,rfl,rfl,_,rfl,q⟩) J9 (bT rfl rfl rfl (o2) rfl (bT rfl rfl rfl (o2) rfl (bT rfl rfl rfl (o2) rfl (bg rfl ⟨_,_,_,_,_,_,_,_,rfl,(o3),?p1,fun a1 H1 n1 s1 x1=>?r1⟩))))))))
  case p1=>exact⟨⟨ha,hb,hc⟩,b1,b2⟩
  case r1=>exact q _ _ u n1 (o1.same s1) (by rw[fr st];exact rl) (ab.mono Kf) (oj s1) (b4 x1 (by rw[fr st]))
 | cmp a1 a2 u1 u2 ha hb b1 b2 =>
  obtain⟨x1,x2,rfl⟩:=JQ o3.len;have fr:=BF.Of ha hb b1 b2;refine cD (fun _ q=>⟨_,rfl,_,_,rfl,rfl,_,rfl,q⟩) J9 (cD (fun _ q=>⟨_,rfl,_,_,rfl,rfl,_,rfl,q⟩) J9 (cD (fun _ q=>⟨_,rfl,_,_,rfl,rfl,_,rfl,q⟩) J9 (cD (fun _ q=>⟨_,rfl,_,_,rfl,rfl,_,rfl,q⟩) J9 (cD (fun _ q=>⟨_,rfl,_,_,rfl,rfl,_,rfl,q⟩) J9 (xy (fun _ q=>⟨_,rfl,_,_,rfl,rfl,_,rfl,q⟩) J9 (bT rfl rfl rfl (o2) rfl (bT rfl rfl rfl (o2) rfl (bg rfl ⟨_,_,_,_,_,_,_,rfl,(o3),?p1,fun a1 H1 n1 s1 x1=>?r1⟩))))))))
  case p1=>exact⟨⟨ha,hb⟩,b1,b2⟩
  case r1=>exact q _ _ u n1 (o1.same s1) (by rw[fr st];exact rl) (ab.mono Kf) (oj s1) (b4 x1 (by rw[fr st]))
 | text a1 u1 ha b1 =>
  obtain⟨x1,rfl⟩:=FJ o3.len;have fr:=BF.Lc ha b1;refine cD (fun _ q=>⟨_,rfl,_,_,rfl,rfl,_,rfl,q⟩) J9 (cD (fun _ q=>⟨_,rfl,_,_,rfl,rfl,_,rfl,q⟩) J9 (cD (fun _ q=>⟨_,rfl,_,_,rfl,rfl,_,rfl,q⟩) J9 (cD (fun _ q=>⟨_,rfl,_,_,rfl,rfl,_,rfl,q⟩) J9 (cD (fun _ q=>⟨_,rfl,_,_,rfl,rfl,_,rfl,q⟩) J9 (cD (fun _ q=>⟨_,rfl,_,_,rfl,rfl,_,rfl,q⟩) J9 (xy (fun _ q=>⟨_,rfl,_,_,rfl,rfl,_,rfl,q⟩) J9 (bT rfl rfl rfl (o2) rfl (bg rfl (gj rfl (o3) ?p1 (fun a1 H1 n1 s1 x1=>?r1))))))))))
  case p1=>exact⟨ha,b1⟩
  case r1=>exact q _ _ u n1 (o1.same s1) (by rw[fr st];exact rl) (ab.mono Kf) (oj s1) (b4 x1 (by rw[fr st]))
 | read a1 a2 u1 ha hb b1 hl =>
  obtain⟨x1,rfl⟩:=FJ o3.len;have fr:=BF.Ld (u:=u1) ha hb;refine cD (fun _ q=>⟨_,rfl,_,_,rfl,rfl,_,rfl,q⟩) J9 (cD (fun _ q=>⟨_,rfl,_,_,rfl,rfl,_,rfl,q⟩) J9 (cD (fun _ q=>⟨_,rfl,_,_,rfl,rfl,_,rfl,q⟩) J9 (cD (fun _ q=>⟨_,rfl,_,_,rfl,rfl,_,rfl,q⟩) J9 (cD (fun _ q=>⟨_,rfl,_,_,rfl,rfl,_,rfl,q⟩) J9 (cD (fun _ q=>⟨_,rfl,_,_,rfl,rfl,_,rfl,q⟩) J9 (cD (fun _ q=>⟨_,rfl,_,_,rfl,rfl,_,rfl,q⟩) J9 (xy (fun _ q=>⟨_,rfl,_,_,rfl,rfl,_,rfl,q⟩) J9 (bT rfl rfl rfl (o2) rfl (bT rfl rfl rfl (o2) rfl (bT rfl rfl rfl ((o3)).sq rfl (gj rfl ((o3.row 0 _ _ rfl rfl)) ?p1 (fun a1 H1 n1 s1 x1=>?r1))))))))))))
  case p1=>exact⟨⟨ha,hb⟩,b1,hl⟩
  case r1=>exact q _ _ u n1 (o1.same s1) (by rw[fr st];exact rl) (ab.mono Kf) (oj s1) (b4 x1 (by rw[fr st]))
 | clear  =>
  refine cD (fun _ q=>⟨_,rfl,_,_,rfl,rfl,_,rfl,q⟩) J9 (cD (fun _ q=>⟨_,rfl,_,_,rfl,rfl,_,rfl,q⟩) J9 (cD (fun _ q=>⟨_,rfl,_,_,rfl,rfl,_,rfl,q⟩) J9 (cD (fun _ q=>⟨_,rfl,_,_,rfl,rfl,_,rfl,q⟩) J9 (cD (fun _ q=>⟨_,rfl,_,_,rfl,rfl,_,rfl,q⟩) J9 (cD (fun _ q=>⟨_,rfl,_,_,rfl,rfl,_,rfl,q⟩) J9 (cD (fun _ q=>⟨_,rfl,_,_,rfl,rfl,_,rfl,q⟩) J9 (cD (fun _ q=>⟨_,rfl,_,_,rfl,rfl,_,rfl,q⟩) J9 (xy (fun _ q=>⟨_,rfl,_,_,rfl,rfl,_,rfl,q⟩) J9 (eJ rfl rfl (o1) ?p1 ?r1)))))))))
  case p1=>exact trivial
  case r1=>exact fun l H' nl ac sb xl=>q _ _ _ nl ac BF.uZ (OX _) sb xl
 | add a1 u1 u2 ha b1 b2 =>
  obtain⟨x1,x2,rfl⟩:=JQ o3.len;refine cD (fun _ q=>⟨_,rfl,_,_,rfl,rfl,_,rfl,q⟩) J9 (cD (fun _ q=>⟨_,rfl,_,_,rfl,rfl,_,rfl,q⟩) J9 (cD (fun _ q=>⟨_,rfl,_,_,rfl,rfl,_,rfl,q⟩) J9 (cD (fun _ q=>⟨_,rfl,_,_,rfl,rfl,_,rfl,q⟩) J9 (cD (fun _ q=>⟨_,rfl,_,_,rfl,rfl,_,rfl,q⟩) J9 (cD (fun _ q=>⟨_,rfl,_,_,rfl,rfl,_,rfl,q⟩) J9 (cD (fun _ q=>⟨_,rfl,_,_,rfl,rfl,_,rfl,q⟩) J9 (cD (fun _ q=>⟨_,rfl,_,_,rfl,rfl,_,rfl,q⟩) J9 (cD (fun _ q=>⟨_,rfl,_,_,rfl,rfl,_,rfl,q⟩) J9 (xy (fun _ q=>⟨_,rfl,_,_,rfl,rfl,_,rfl,q⟩) J9 (aR rfl rfl (il rfl rfl (o2) rfl (bg rfl ⟨_,_,st,n,_,_,_,_,_,_,rfl,(o1),(o3),?p1,?r1⟩))))))))))))
  case p1=>exact⟨⟨ha,b1,b2⟩,rl,ab,hn⟩
  case r1=>exact fun l H' u' nl ac re ab2 sb xl=>q _ _ _ nl ac re ab2 sb xl
 | get a1 a2 ha hb =>
  refine cD (fun _ q=>⟨_,rfl,_,_,rfl,rfl,_,rfl,q⟩) J9 (cD (fun _ q=>⟨_,rfl,_,_,rfl,rfl,_,rfl,q⟩) J9 (cD (fun _ q=>⟨_,rfl,_,_,rfl,rfl,_,rfl,q⟩) J9 (cD (fun _ q=>⟨_,rfl,_,_,rfl,rfl,_,rfl,q⟩) J9 (cD (fun _ q=>⟨_,rfl,_,_,rfl,rfl,_,rfl,q⟩) J9 (cD (fun _ q=>⟨_,rfl,_,_,rfl,rfl,_,rfl,q⟩) J9 (cD (fun _ q=>⟨_,rfl,_,_,rfl,rfl,_,rfl,q⟩) J9 (cD (fun _ q=>⟨_,rfl,_,_,rfl,rfl,_,rfl,q⟩) J9 (cD (fun _ q=>⟨_,rfl,_,_,rfl,rfl,_,rfl,q⟩) J9 (cD (fun _ q=>⟨_,rfl,_,_,rfl,rfl,_,rfl,q⟩) J9 (xy (fun _ q=>⟨_,rfl,_,_,rfl,rfl,_,rfl,q⟩) J9 (aR rfl rfl (il rfl rfl (o2) rfl (bT rfl rfl rfl (o2) rfl ⟨_,_,st,_,_,rfl,(o1),?p1,fun a1 H1 n1 s1 x1=>?r1⟩)))))))))))))
  case p1=>exact⟨⟨ha,hb⟩,rl,ab.pb Kf⟩
  case r1=>exact q _ _ u n1 (o1.same s1) (by rw[BF.Aw _ ha hb];exact rl) (ab.mono Kf) (oj s1) x1
 | sum a1 a2 a3 u1 ha hb hc b1 hl =>
  obtain⟨x1,rfl⟩:=FJ o3.len;have fr:=BF.Og ha hb hc b1;refine cD (fun _ q=>⟨_,rfl,_,_,rfl,rfl,_,rfl,q⟩) J9 (cD (fun _ q=>⟨_,rfl,_,_,rfl,rfl,_,rfl,q⟩) J9 (cD (fun _ q=>⟨_,rfl,_,_,rfl,rfl,_,rfl,q⟩) J9 (cD (fun _ q=>⟨_,rfl,_,_,rfl,rfl,_,rfl,q⟩) J9 (cD (fun _ q=>⟨_,rfl,_,_,rfl,rfl,_,rfl,q⟩) J9 (cD (fun _ q=>⟨_,rfl,_,_,rfl,rfl,_,rfl,q⟩) J9 (cD (fun _ q=>⟨_,rfl,_,_,rfl,rfl,_,rfl,q⟩) J9 (cD (fun _ q=>⟨_,rfl,_,_,rfl,rfl,_,rfl,q⟩) J9 (cD (fun _ q=>⟨_,rfl,_,_,rfl,rfl,_,rfl,q⟩) J9 (cD (fun _ q=>⟨_,rfl,_,_,rfl,rfl,_,rfl,q⟩) J9 (cD (fun _ q=>⟨_,rfl,_,_,rfl,rfl,_,rfl,q⟩) J9 (xy (fun _ q=>⟨_,rfl,_,_,rfl,rfl,_,rfl,q⟩) J9 (bT rfl rfl rfl (o2) rfl (bT rfl rfl rfl (o2) rfl (bT rfl rfl rfl (o2) rfl (bg rfl ⟨_,_,_,_,_,_,rfl,(o3),?p1,fun a1 H1 n1 s1 x1=>?r1⟩)))))))))))))))
  case p1=>exact⟨⟨ha,hb,hc⟩,b1,hl⟩
  case r1=>exact q _ _ u n1 (o1.same s1) (by rw[fr st];exact rl) (ab.mono Kf) (oj s1) (b4 x1 (by rw[fr st]))
 | dot a1 a2 a3 u1 u2 ha hb hc b1 b2 hl =>
  obtain⟨x1,x2,rfl⟩:=JQ o3.len;have fr:=BF.Oh ha hb hc b1 b2;refine cD (fun _ q=>⟨_,rfl,_,_,rfl,rfl,_,rfl,q⟩) J9 (cD (fun _ q=>⟨_,rfl,_,_,rfl,rfl,_,rfl,q⟩) J9 (cD (fun _ q=>⟨_,rfl,_,_,rfl,rfl,_,rfl,q⟩) J9 (cD (fun _ q=>⟨_,rfl,_,_,rfl,rfl,_,rfl,q⟩) J9 (cD (fun _ q=>⟨_,rfl,_,_,rfl,rfl,_,rfl,q⟩) J9 (cD (fun _ q=>⟨_,rfl,_,_,rfl,rfl,_,rfl,q⟩) J9 (cD (fun _ q=>⟨_,rfl,_,_,rfl,rfl,_,rfl,q⟩) J9 (cD (fun _ q=>⟨_,rfl,_,_,rfl,rfl,_,rfl,q⟩) J9 (cD (fun _ q=>⟨_,rfl,_,_,rfl,rfl,_,rfl,q⟩) J9 (cD (fun _ q=>⟨_,rfl,_,_,rfl,rfl,_,rfl,q⟩) J9 (cD (fun _ q=>⟨_,rfl,_,_,rfl,rfl,_,rfl,q⟩) J9 (cD (fun _ q=>⟨_,rfl,_,_,rfl,rfl,_,rfl,q⟩) J9 (xy (fun _ q=>⟨_,rfl,_,_,rfl,rfl,_,rfl,q⟩) J9 (bT rfl rfl rfl (o2) rfl (bT rfl rfl rfl (o2) rfl (bT rfl rfl rfl (o2) rfl (bg rfl ⟨_,_,_,_,_,_,_,_,rfl,(o3),?p1,fun a1 H1 n1 s1 x1=>?r1⟩))))))))))))))))
  case p1=>exact⟨⟨ha,hb,hc⟩,⟨b1,b2⟩,hl⟩
  case r1=>exact q _ _ u n1 (o1.same s1) (by rw[fr st];exact rl) (ab.mono Kf) (oj s1) (b4 x1 (by rw[fr st]))
 | whole a1 a2 a3 a4 u1 ha hb hc hd b1 =>
  obtain⟨x1,rfl⟩:=FJ o3.len;have fr:=BF.IY ha hb hc hd b1;refine cD (fun _ q=>⟨_,rfl,_,_,rfl,rfl,_,rfl,q⟩) J9 (cD (fun _ q=>⟨_,rfl,_,_,rfl,rfl,_,rfl,q⟩) J9 (cD (fun _ q=>⟨_,rfl,_,_,rfl,rfl,_,rfl,q⟩) J9 (cD (fun _ q=>⟨_,rfl,_,_,rfl,rfl,_,rfl,q⟩) J9 (cD (fun _ q=>⟨_,rfl,_,_,rfl,rfl,_,rfl,q⟩) J9 (cD (fun _ q=>⟨_,rfl,_,_,rfl,rfl,_,rfl,q⟩) J9 (cD (fun _ q=>⟨_,rfl,_,_,rfl,rfl,_,rfl,q⟩) J9 (cD (fun _ q=>⟨_,rfl,_,_,rfl,rfl,_,rfl,q⟩) J9 (cD (fun _ q=>⟨_,rfl,_,_,rfl,rfl,_,rfl,q⟩) J9 (cD (fun _ q=>⟨_,rfl,_,_,rfl,rfl,_,rfl,q⟩) J9 (cD (fun _ q=>⟨_,rfl,_,_,rfl,rfl,_,rfl,q⟩) J9 (cD (fun _ q=>⟨_,rfl,_,_,rfl,rfl,_,rfl,q⟩) J9 (cD (fun _ q=>⟨_,rfl,_,_,rfl,rfl,_,rfl,q⟩) J9 (xy (fun _ q=>⟨_,rfl,_,_,rfl,rfl,_,rfl,q⟩) J9 (bT rfl rfl rfl (o2) rfl (bT rfl rfl rfl (o2) rfl (bT rfl rfl rfl (o2) rfl (bT rfl rfl rfl (o2) rfl (bg rfl ⟨_,_,_,_,_,_,_,rfl,(o3),?p1,fun a1 H1 n1 s1 x1=>?r1⟩))))))))))))))))))
  case p1=>exact⟨⟨ha,hb,hc,hd⟩,b1⟩
  case r1=>exact q _ _ u n1 (o1.same s1) (by rw[fr st];exact rl) (ab.mono Kf) (oj s1) (b4 x1 (by rw[fr st]))
 | float a1 a2 a3 ha hb z1 z2 =>
  have fr:=BF.IZ (z:=a3) ha hb;refine cD (fun _ q=>⟨_,rfl,_,_,rfl,rfl,_,rfl,q⟩) J9 (cD (fun _ q=>⟨_,rfl,_,_,rfl,rfl,_,rfl,q⟩) J9 (cD (fun _ q=>⟨_,rfl,_,_,rfl,rfl,_,rfl,q⟩) J9 (cD (fun _ q=>⟨_,rfl,_,_,rfl,rfl,_,rfl,q⟩) J9 (cD (fun _ q=>⟨_,rfl,_,_,rfl,rfl,_,rfl,q⟩) J9 (cD (fun _ q=>⟨_,rfl,_,_,rfl,rfl,_,rfl,q⟩) J9 (cD (fun _ q=>⟨_,rfl,_,_,rfl,rfl,_,rfl,q⟩) J9 (cD (fun _ q=>⟨_,rfl,_,_,rfl,rfl,_,rfl,q⟩) J9 (cD (fun _ q=>⟨_,rfl,_,_,rfl,rfl,_,rfl,q⟩) J9 (cD (fun _ q=>⟨_,rfl,_,_,rfl,rfl,_,rfl,q⟩) J9 (cD (fun _ q=>⟨_,rfl,_,_,rfl,rfl,_,rfl,q⟩) J9 (cD (fun _ q=>⟨_,rfl,_,_,rfl,rfl,_,rfl,q⟩) J9 (cD (fun _ q=>⟨_,rfl,_,_,rfl,rfl,_,rfl,q⟩) J9 (cD (fun _ q=>⟨_,rfl,_,_,rfl,rfl,_,rfl,q⟩) J9 (bT rfl rfl rfl (o2) rfl (bT rfl rfl rfl (o2) rfl (bT rfl rfl rfl (o2) rfl (eZ rfl ?p1 (fun a1 H1 n1 s1 x1=>?r1))))))))))))))))))
  case p1=>exact⟨⟨ha,hb⟩,b6 Kf J9⟩
  case r1=>exact q _ _ u n1 (o1.same s1) (by rw[fr st];exact rl) (ab.mono Kf) (oj s1) (b4 x1 (by rw[fr st]))
end
theorem JS {l:List Int} {z:Int} {v:Int} {rest:List Int} (h0:0≤z) (h:l.drop z.toNat=v::rest):lB (fg l) z=some (.int v):=by
 have hl:z.toNat<l.length:=by
  have:=a7 List.length h;rw[et,cN] at this;omega
 have e:l[z.toNat]?=some v:=by
  have:=a7 (fun x=>x[0]?) h;simpa using this
 unfold lB xK;rw[aF,ao Kf,ao Kf,yE,aT,e];rfl
theorem OZ {l:List Int} {z:Int} {r rest:List Int} (h0:0≤z) (h:l.drop z.toNat=(r.length:Int)::(r++rest)):gb (fg l) (some (z+1)) (some (z+1+(r.length:Int)))=fg r:=by
 obtain⟨Z,rfl⟩:=aA h0;rw[aN] at h;have:=tL (fg l) (Z+1) (Z+1+r.length);rw[show Z+1+r.length-(Z+1)=r.length by omega,←oK,←oH,←me,h] at this;rw[DV,xF,List.take_left] at this;exact this
theorem sx {K:aP} {H:Hp} {a x:Addr} {xs:List V} {o:HO} (h:bU K H a xs) (n:a≠x):bU K (upd H x o) a xs:=by
 rcases h with (h | ⟨ob,h⟩) | h
 ·exact .inl (.inl (by rw[b7 n];exact h))
 ·exact .inl (.inr ⟨ob,by rw[b7 n];exact h⟩)
 ·exact .inr h
section
variable {P:Program} {w:World} {K:aP} {mg:Str→Option Value} {base:Heap} {C C2 C3:Addr}
def DC (K:aP) (C:Addr):Sp:=fun vs H Q _=>∃a l s n R t,vs=[.ref a,.int s,.int n]∧(bU K H a (fg l))∧(0≤s∧n=(R.length:Int)∧R.length≤3∧l.drop s.toNat=BF.bL R++t)∧∀x as H',H x=none→(∀y∈as,H y=none)→aI H H'→fQ K H' x as R→Q (.ref x) H'
theorem iw:aD ["calls","start","count","rows","at","turn","end"] ["calls","start","count"] (ay (top 146)):=bz
theorem EG (ak:Ev K mg C C2 C3):cw P w K mg base "taken_rows" ["calls","start","count"] 1 (DC K C):=by
 have T:=ak.T;refine cQ (ak.df 89) iw QO (QP fun f bw A outer s H Q E hr a l s n R t h=>?_);obtain⟨o1,⟨hs,rfl,h3,WL⟩,q⟩:=h;refine⟨_,ah (sv 3 iw.nd (dw (ae))) (ah (sv 4 iw.nd (pv 1)) (ah (nJ PassesOwn.never rfl (uB rfl T.wK (aa (pv 2) (ae))) (eK (i:=5) iw.nd rfl (Or.inl rfl)) (ah (sv 6 iw.nd (aH bX (aH bX (pv 4) (al)) (ek aZ (pv 0) (pv 4)))) (ah (mq (Ks PySem.F.plainAttrs_list PySem.F.slot_list_append PySem.F.type_list_append Ba (pv 3) (aa (eV fW (pv 0) (dS (aH bX (pv 4) (al))) (dS (pv 6))) (ae)))) (aj (sv 4 iw.nd (pv 6)))))) (aj (aq (pv 3))))),⟨(by show _≤sizeLine;decide),fun l1 dC=>bg rfl (cP rfl rfl ?c1 ⟨?c2,?f1⟩)⟩⟩
 case c1=>omega
 case c2=>omega
 case f1 =>
  refine n9 R.length (fun i σ H'=>(∃t1 t2,σ=[some (.ref a),some (.int s),some (.int (R.length:Int)),some (.ref l1),some (.int (s+((BF.bL (R.take i)).length:Int))),t1,t2])∧aI H H'∧∃as:List Addr,H' l1=some (.lst (as.map V.ref))∧as.length=i∧∀(j:Nat) (y:Addr) (r:List Int),as[j]?=some y→R[j]?=some r→H y=none∧y≠l1∧bU K H' y (fg r)) ⟨⟨_,_,by rw[DL,show s+(((BF.bL []).length:Nat):Int)=s from Int.add_zero s];rfl⟩,ai dC,[],aL,rfl,fun j y r e1 _=>by simp at e1⟩ ?_ ?_
  ·rintro i σ H' hi ⟨⟨t1,t2,rfl⟩,sm,as,hx,hlen,jP⟩;have hr:R[i]?=some (R[i]'hi):=bI hi;generalize R[i]'hi=r at hr;obtain⟨hd0,hln⟩:=BF.Le WL hr;have hz:0≤s+((BF.bL (R.take i)).length:Int):=by omega
   have hd:l.drop (s+((BF.bL (R.take i)).length:Int)).toNat=(r.length:Int)::(r++(BF.bL (R.drop (i+1))++t)):=by
    rw[show (s+((BF.bL (R.take i)).length:Int)).toNat=s.toNat+(BF.bL (R.take i)).length by omega];exact hd0
   refine⟨by show i<_;omega,?_⟩;rintro x H2 ⟨rfl,rfl⟩;refine aE rfl rfl rfl rfl (bT rfl rfl rfl ((sm).seq (o1)) (JS hz hd) (bG rfl rfl (eG rfl (.inl ⟨rfl,_,(bU.of (hx))⟩) (bx rfl rfl rfl rfl rfl (br rfl rfl rfl ((sm).seq (o1)) (fun l2 fk=>jr rfl rfl (((ai fk) _ _ (hx))) ⟨?c3,bg rfl ?e1⟩))))))
   case c3=>rw[aF];unfold sizeLine;omega
   case e1 =>
    rename_i l2 fk;have ne:l1≠l2:=da hx fk;refine⟨⟨_,_,by rw[hln,show s+(((BF.bL (R.take i)).length+1+r.length:Nat):Int)=s+((BF.bL (R.take i)).length:Int)+1+(r.length:Int) by omega];rfl⟩,?_,as++[l2],?_,by simp[hlen],?_⟩
    ·intro b o e;rw[b7 (da e dC)];exact(sm.trans (ai fk)) b o e
    ·rw[aL,yF];rfl
    ·intro j y r' e1 e2;by_cases c:j<as.length
     ·rw[uf c] at e1;obtain⟨n0,n1,q1⟩:=jP j y r' e1 e2;exact⟨n0,n1,sx ((ai fk).seq q1) n1⟩
     ·rw[ue Kf] at e1;have hj:j=i:=by
       have:=(g9.mp e1).1;simp at this;omega
      subst hj;rw[hlen,Nat.sub_self] at e1;obtain rfl:l2=y:=by simpa using e1
      rw[hr] at e2;obtain rfl:r=r':=bM e2;exact⟨sm.free fk,fun z=>ne z.symm,sx (bU.of (b4 aL (OZ hz hd))) (fun z=>ne z.symm)⟩
  ·rintro σ H' ⟨⟨t1,t2,rfl⟩,sm,as,hx,hlen,jP⟩;refine⟨by show _≤R.length;omega,?_⟩;refine bg rfl ?r1
   case r1 =>
    refine q _ as _ dC (fun y hy=>?_) sm ⟨bU.of hx,hlen,fun j y r e1 e2=>(jP j y r e1 e2).2.2⟩;obtain⟨j,hj,rfl⟩:=List.mem_iff_getElem.mp hy;exact(jP j _ (R[j]'Kf) (bI hj) (bI Kf)).1
end
structure ShC (K:aP) (mg:Str→Option Value) (ra:List Addr):Prop where
 ct:CT K mg "SHAPES" (ra.map V.ref)
 len:ra.length=15
 row:∀(i:Nat) (x:Addr) (p:Int×Int),ra[i]?=some x→BF.kY[i]?=some p→∀H,j3 K H x [.int p.1,.int p.2]
theorem U6 {ra:List Addr} {p:Int} {x:Addr} (h0:0≤p) (h:ra[p.toNat]?=some x):lB (ra.map V.ref) p=some (.ref x):=by
 have hl:=(g9.mp h).1;unfold lB xK;rw[aF,ao Kf,ao Kf,yE,aT,h];rfl
theorem U7 {l:List Int} {z:Nat} {p:Int} {W rest:List Int} (h:l.drop z=p::(W++rest)):gb (fg l) (some ((z:Int)+1)) (some ((z:Int)+1+(W.length:Int)))=fg W:=by
 have:=tL (fg l) (z+1) (z+1+W.length);rw[show z+1+W.length-(z+1)=W.length by omega,←oK,←oH,←me,h] at this;rw[DV,xF,List.take_left] at this;exact this
theorem gx (k:Int) (x:Nat):(BF.hZ (BF.fm k) x).length≤200:=by
 have:=BF.gz k;unfold BF.hZ BF.uu;rw[cN,cN,aF,rg];omega
theorem O0 {c:List (List Int)} (h:BF.Ask c) (st:BF.St):(NumNeutral.step st c).2.length≤200:=by
 cases h with
 | op a b c u v ha hb hc hu hv=>rw[BF.Gp _ ha hb hc hu hv];dsimp only;split;exact gx _ _;decide
 | fma a b u v x ha hb hu hv hx=>rw[BF.Au _ ha hb hu hv hx];dsimp only;split;exact gx _ _;decide
 | scale a b e u ha hb hu=>rw[BF.tf _ ha hb hu];dsimp only;split;exact gx _ _;decide
 | conv a b c u ha hb hc hu=>rw[BF.wy _ ha hb hc hu];dsimp only;split;exact gx _ _;decide
 | fn a b c u v ha hb hc hu hv=>rw[BF.Gq _ ha hb hc hu hv];dsimp only;split;exact gx _ _;decide
 | cmp a b u v ha hb hu hv=>rw[BF.Av _ ha hb hu hv];dsimp only;split;exact Nat.le_of_ble_eq_true rfl;decide
 | text a u ha hu =>
  rw[BF.wz _ ha hu];dsimp only;split
  ·next h =>
   have:=FF (gE ha h.1 hu h.2);unfold BF.xY;rw[cN,cN,aF];omega
  ·decide
 | read a b u ha hb hu hl =>
  rw[BF.rN _ ha hb];dsimp only;split
  ·split
   ·exact gx _ _
   ·decide
  ·decide
 | clear=>exact yG rfl
 | add a u v ha hu hv=>rw[BF.Gr _ ha hu hv];split;exact yG rfl;exact yG rfl
 | get a b ha hb=>rw[BF.Aw _ ha hb];dsimp only;split;exact gx _ _;decide
 | sum a b c u ha hb hc hu hl=>rw[BF.Ax _ ha hb hc hu];dsimp only;split;exact gx _ _;decide
 | dot a b c u v ha hb hc hu hv hl=>rw[BF.Ay _ ha hb hc hu hv];dsimp only;split;exact gx _ _;decide
 | whole a b c d u ha hb hc hd hu=>rw[BF.tj _ ha hb hc hd hu];dsimp only;split;exact Nat.le_of_ble_eq_true rfl;decide
 | float a b z ha hb=>rw[BF.tq _ _ ha hb];dsimp only;split;exact gx _ _;decide
theorem Ha {b y:Addr} {H H1:Hp} {xs:List V} {C2 dx:Addr} {fs:List (Str×V)} (sb:SB b H H1) (hb:H b=some (.ins C2 dx fs)) (h:H y=some (.lst xs)):H1 y=some (.lst xs):=sb y _ h (FK h hb (by intro z;cases z))
theorem M7 {K:aP} {b y:Addr} {H H1:Hp} {xs:List V} {C2 dx:Addr} {fs:List (Str×V)} (sb:SB b H H1) (hb:H b=some (.ins C2 dx fs)) (h:bU K H y xs):bU K H1 y xs:=by
 rcases h with (h | ⟨o,h⟩) | h
 ·exact .inl (.inl (Ha sb hb h))
 ·exact .inl (.inr ⟨o,sb y _ h (FK h hb (by intro z;cases z))⟩)
 ·exact .inr h
theorem gk.ins {C C2:Addr} {H:Hp} {b:Addr} {u:BF.Ex} (h:gk C C2 H b u):∃dx fs,H b=Option.some (.ins C2 dx fs):=let ⟨dx,_,e,_⟩:=h;⟨dx,_,e⟩
theorem U8 {C C2:Addr} {H:Hp} {b gv:Addr} {u:BF.Ex} {xs:List V} {o:HO} (h:gk C C2 H b u) (hg:H gv=some (.lst xs)):gk C C2 (upd H gv o) b u:=by
 obtain⟨dx,a,e,dx2,x⟩:=h;exact⟨dx,a,by rw[b7 (FK e hg (by intro z;cases z))];exact e,dx2,by rw[b7 (FK x hg (by intro z;cases z))];exact x⟩
theorem O1 {i:Nat} {n k:Nat} (h:BF.kY[i]?=some ((n:Int),(k:Int))):k≤3:=by
 have:∀p∈BF.kY,p.2≤3:=by decide
 have:=this _ (List.mem_of_getElem? h);dsimp only at this;omega
structure AG where
 pos:Nat
 cs:List (List (List Int))
 st:BF.St
 u:BF.Ex
 n:Nat
 g:List Int
structure AI (C C2:Addr) (l:List Int) (b gv:Addr) (H:Hp) (z:AG) (H':Hp):Prop where
 sm:aI H H'
 ac:gk C C2 H' b z.u
 gF:H' gv=some (.lst (fg z.g))
 rl:BF.Rel z.st z.u
 ab:AB z.n z.u
 Sa:z.n+z.cs.length≤400
 parse:∃f,PyFlat.calls PyWrlnta.shape f (l.drop z.pos)=some z.cs
 asked:∀c∈z.cs,BF.W8 c
 pos:z.pos≤l.length
 Hb:z.g++PyFlat.told (PyFlat.played NumNeutral.step z.st z.cs)=PyWrlnta.answers l
 len:z.g.length≤300*z.n
def zk (K:aP) (C C2 C3:Addr):Sp:=fun vs H Q _=>∃a l,vs=[.ref a]∧bU K H a (fg l)∧(PyWrlnta.answers_asked l=true∧l.length≤20000)∧∀g H',H g=none→aI H H'→H' g=some (.lst (fg (PyWrlnta.answers l)))→Q (.ref g) H'
section
variable {P:Program} {w:World} {K:aP} {mg:Str→Option Value} {base:Heap} {C C2 C3:Addr} {ra:List Addr}
theorem f6:aD ["calls","accumulator","given","at","shape","wholes","rows","answer","row"] ["calls"] (ay (top 145)):=bz
set_option maxHeartbeats 2000000 in
theorem L7 (ak:Ev K mg C C2 C3) {f:Addr} {fd:FuncData} (F:xO K "answers" "answers" (top 145) f fd) (hC:ShC K mg ra):jy P w K mg base Bl 13 f fd ["calls"] (zk K C C2 C3):=by
 have T:=ak.T;refine F.ok f6 (by rintro vs H Q E ⟨a,l,rfl,_⟩;rfl) fun bw A outer s H vs Q E hr h=>?_;obtain⟨a,l,rfl,o1,⟨M8,hl⟩,q⟩:=h;obtain⟨cs,PN⟩:=BF.IT M8;obtain⟨aa1,jP⟩:=BF.IS PN;obtain⟨afm,_,U9⟩:=jP M8;refine⟨_,ah (sv 1 f6.nd (MS (zj ak) hr J9 rfl)) (ah (sv 2 f6.nd (dw (ae))) (ah (sv 3 f6.nd (al)) (ah (jO PassesOwn.never (cy (b8 jv (pv 3) (bW cx rfl T.iq PySem.boot_len (aa (pv 0) (ae))))) (ah (sv 4 f6.nd (ia hC.ct rfl (ek aZ (pv 0) (pv 3)))) (ah (sv 5 f6.nd (eV fW (pv 0) (dS (aH bX (pv 3) (al))) (dS (aH bX (aH bX (pv 3) (al)) (ek vQ (pv 4) (al)))))) (ah (sv 6 f6.nd (pf (EG ak) hr (aa (pv 0) (aa (aH bX (aH bX (pv 3) (al)) (ek vQ (pv 4) (al))) (aa (ek vQ (pv 4) (al)) (ae)))))) (ah (sv 7 f6.nd (pf (JR ak) hr (aa (pv 1) (aa (ek aZ (pv 0) (pv 3)) (aa (pv 5) (aa (pv 6) (ae))))))) (ah (mq (Ks PySem.F.plainAttrs_list PySem.F.slot_list_append PySem.F.type_list_append Ba (pv 2) (aa (bW cx rfl T.iq PySem.boot_len (aa (pv 7) (ae))) (ae)))) (ah (mq (Ks PySem.F.plainAttrs_list PySem.F.slot_list_extend PySem.F.type_list_extend Ku (pv 2) (aa (pv 7) (ae)))) (aj (sv 3 f6.nd (aH bX (aH bX (aH bX (pv 3) (al)) (bW cx rfl T.iq PySem.boot_len (aa (pv 5) (ae)))) (bW (S4 rfl) rfl T.Xv boot_sum (aa (uM rfl f6.nd (oO (pv 6)) (own:=[("row",8)]) (jj rfl) (fun _ _ _ _ _=>eK (i:=8) f6.nd rfl (Or.inl rfl)) (fun _ _ _ _ _=>kf) (fun _ _ _ _ _=>aH bX (al) (bW (Dk (K:=K) rfl) rfl T.iq PySem.boot_len (aa (pv 8) (ae))))) (ae))))))))))))) (aj (aq (pv 2)))))),?_⟩;intro b dx nb nd ne;refine⟨b,dx,rfl,aL,fun H1 ac sb=>⟨rfl,?_⟩⟩;have s1:aI H H1:=aI.made nb nd sb;refine⟨(by show _≤sizeLine;decide),fun gv XV=>?_⟩;have ng:H gv=none:=s1.free XV;refine gU (fun (z:AG) σ H'=>(∃t4 t5 t6 t7 t8,σ=[some (.ref a),some (.ref b),some (.ref gv),some (.int (z.pos:Int)),t4,t5,t6,t7,t8])∧AI C C2 l b gv H z H') (fun z=>l.length-z.pos) ⟨0,cs,NumCalls.start,BF.gI 0,0,[]⟩ ⟨⟨_,_,_,_,_,rfl⟩,⟨s1.trans (ai XV),ac.same (ai XV),aL,BF.uZ,tI,by show 0+cs.length≤400;omega,⟨_,PN⟩,U9,iA _,aa1.symm,iA _⟩⟩ ?_;rintro⟨z,cs,st,u,n,g⟩ σ H' ⟨⟨t4,t5,t6,t7,t8,rfl⟩,I⟩;have sm:=I.sm;have acF:=I.ac;have gF:=I.gF;refine⟨decide ((z:Int)<(l.length:Int)),⟨_,rfl,_,rfl,_,_,rfl,(.inl (sm.seq o1)),_,_,rfl,rfl,_,rfl,by rw[aF];exact⟨rfl,rfl⟩⟩,?_⟩;by_cases c:(z:Int)<(l.length:Int)
 ·rw[du c,ao rfl];obtain⟨f0,hp⟩:=I.parse;have ne0:l.drop z≠[]:=by
   intro e;have:=a7 List.length e;rw[et] at this;simp at this;omega
  obtain⟨f1,p,W,R,t,u5,TH,hd,rfl,TM⟩:=BF.I0 hp ne0;replace hd:l.drop z=p::(W++(BF.bL R++t)):=hd;obtain⟨p0,Jq,psh⟩:=BF.IU TH;have ask:=BF.T5 (I.asked _ (fA));have hz:(0:Int)≤(z:Int):=fK _;have qY:l.drop ((z:Int)).toNat=p::(W++(BF.bL R++t)):=by rw[aN];exact hd
  have cat:=JS hz qY;have R3:R.length≤3:=O1 psh;have XW:ra[p.toNat]?=some (ra[p.toNat]'(by rw[hC.len];omega)):=bI (by rw[hC.len];omega);generalize ra[p.toNat]'(by rw[hC.len];omega)=xs at XW;have XX:=hC.row _ _ _ XW psh;refine⟨_,rfl,_,rfl,_,_,_,_,rfl,rfl,(sm.seq o1),cat,_,_,rfl,(U6 p0 XW),?_⟩;refine⟨_,rfl,_,rfl,_,_,rfl,rfl,_,rfl,_,rfl,_,_,rfl,rfl,_,rfl,_,_,_,_,rfl,rfl,XX _,rfl,_,_,rfl,rfl,_,rfl,_,_,rfl,(sm.seq o1),fun lw L8=>?_⟩;have s2:=sm.trans (ai L8 (o:=.lst (gb (fg l) (some ((z:Int)+1)) (some ((z:Int)+1+(W.length:Int))))));refine⟨_,rfl,_,rfl,_,_,rfl,rfl,_,rfl,_,_,_,_,rfl,rfl,XX _,rfl,_,_,rfl,rfl,_,rfl,_,_,_,_,rfl,rfl,XX _,rfl,_,_,_,_,R,t,rfl,(s2.seq o1),?_,fun ar as H3 uY nas s3 rF=>?_⟩
  ·refine⟨Kf,rfl,R3,?_⟩;rw[show ((z:Int)+1+(W.length:Int)).toNat=z+(1+W.length) by omega,←me,hd,kZ 1,DV,JT]
  have wF:H3 lw=some (.lst (fg W)):=s3 _ _ (b4 aL (U7 hd));have s4:=s2.trans s3;refine⟨_,rfl,_,rfl,_,rfl,_,_,_,_,rfl,rfl,(s4.seq o1),cat,_,rfl,_,rfl,_,_,st,n,_,_,_,_,_,_,rfl,(acF.same ((ai L8).trans s3)),(bU.of wF),rF,⟨ask,I.rl,I.ab,by have:=I.Sa;dsimp only at this;omega⟩,fun la H4 u' nla ac4 rl4 ab4 Sb Sd=>?_⟩;have hal:=O0 ask st;generalize qO:(NumNeutral.step st ((p::W)::R)).2=sA at Sd hal;generalize hs1:(NumNeutral.step st ((p::W)::R)).1=qP at rl4;obtain⟨dxb,fsb,Va⟩:=(acF.same ((ai L8).trans s3)).ins;have gF3:H3 gv=some (.lst (fg g)):=s3 _ _ ((ai L8) _ _ gF);have XZ:=Ha Sb Va gF3;have wF4:=Ha Sb Va wF;have aa7:lw≠gv:=fun e=>by rw[e,gF] at L8;cases L8
  have gFu:=(ai L8 (o:=.lst (gb (fg l) (some ((z:Int)+1)) (some ((z:Int)+1+(W.length:Int)))))) _ _ gF;have aa9:ar≠gv:=fun e=>by rw[e,gFu] at uY;cases uY
  have aba:∀y∈as,y≠gv:=fun y hy e=>by have:=nas y hy;rw[e,gFu] at this;cases this
  have abb:la≠gv:=fun e=>by rw[e,gF3] at nla;cases nla
  have abc:=I.len;have Sa:=I.Sa;dsimp only at abc Sa;rw[List.length_cons] at Sa;refine⟨_,rfl,(.inl ⟨rfl,_,(bU.of XZ)⟩),_,rfl,_,_,rfl,(.inl (bU.of Sd)),_,_,_,rfl,rfl,XZ,by rw[List.length_map];unfold sizeLine;omega,?_⟩;refine⟨_,rfl,(.inl ⟨rfl,_,(bU.of aL)⟩),_,rfl,_,_,_,_,rfl,rfl,aL,by rw[b7 abb];exact Sd,by rw[List.length_append,List.length_map,List.length_map];show g.length+1+sA.length≤_;unfold sizeLine;omega,?_⟩;rw[Pd];have e6:fg g++[V.int ((fg sA).length:Int)]++fg sA=fg (g++((sA.length:Int)::sA)):=by
   rw[aF,kG];exact(yF (f:=V.int) (l₁:=g) (l₂:=(sA.length:Int)::sA)).symm
  rw[e6];generalize ho6:HO.lst (fg (g++((sA.length:Int)::sA)))=o6;have wF6:bU K (upd H4 gv o6) lw (fg W):=sx (bU.of wF4) aa7;have Vb:bU K (upd H4 gv o6) ar (as.map V.ref):=sx (M7 Sb Va rF.sq) aa9;have rR6:∀(i:Nat) (x:Addr) (r:List Int),as[i]?=some x→R[i]?=some r→bU K (upd H4 gv o6) x (fg r):=fun i x r e1 e2=>sx (M7 Sb Va (rF.row i x r e1 e2)) (aba x (uk e1));have s6:aI H (upd H4 gv o6):=fun y o e=>by rw[b7 (da e ng)];exact(JF s4 nb Sb) y o e
  refine⟨_,rfl,_,_,rfl,rfl,_,rfl,_,_,rfl,(.inl wF6),_,_,rfl,rfl,_,rfl,_,rfl,⟨_,Vb⟩,fun D1 yl=>?_⟩;refine ma R.length (by unfold sizeLine;omega) yl (fun i v _=>∃r,R[i]?=some r∧v=.int (1+(r.length:Int))) (fun _ _ _ _ _ e=>e) (fun _ _ _ _ _ _ e=>e) ?_ ?_
  ·intro i Hi Kx hi si hK;have xa:as[i]?=some (as[i]'(by rw[rF.len];exact hi)):=bI (by rw[rF.len];exact hi);have xb:R[i]?=some (R[i]'hi):=bI hi;refine⟨⟨_,_,si.seq Vb,by rw[aT,xa];rfl⟩,?_⟩;rintro v H2 ⟨rfl,hv⟩;have ex:=hv _ (si.seq Vb);rw[aT,xa] at ex;have xr:=rR6 i _ _ xa xb;generalize as[i]'(by rw[rF.len];exact hi)=y at *;generalize R[i]'hi=r at *;obtain rfl:V.ref y=v:=bM ex;refine⟨rfl,⟨_,rfl,_,_,rfl,(.inl (si.seq xr)),_,_,rfl,rfl,?_⟩⟩;exact hK _ _ (aI.refl _) ⟨r,xb,by rw[aF]⟩
  ·intro H7 acc s7 ha afo hv;have e:acc=fg (R.map fun r=>(1:Int)+r.length):=by
    refine j4 fun i=>?_;by_cases cc:i<acc.length
    ·obtain⟨r,e1,e2⟩:=hv i _ (bI cc);rw[bI cc,e2,aT,aT,e1];rfl
    ·rw[eO Kf,eO (by simp;omega)]
   subst e;refine⟨⟨_,s7.seq Vb,by simp[rF.len]⟩,?_⟩;refine⟨_,_,rfl,(bU.of ha),_,_,rfl,rfl,?_⟩;have fl:=BF.Fn R;have hlen:=a7 List.length hd;rw[et,cN,cT,cT] at hlen;have zl:z≤l.length:=I.pos;refine⟨⟨z+(1+W.length+(BF.bL R).length),u5,qP,u',n+1,g++((sA.length:Int)::sA)⟩,⟨⟨_,_,_,_,_,by rw[aF,←fl,show ((z+(1+W.length+(BF.bL R).length):Nat):Int)=(z:Int)+1+(W.length:Int)+((BF.bL R).length:Int) by omega];rfl⟩,⟨s6.trans s7,?_,?_,rl4,ab4,by show n+1+u5.length≤400;omega,⟨f1,?_⟩,fun c hc=>I.asked c (dv _ hc),by show z+(1+W.length+(BF.bL R).length)≤l.length;omega,?_,?_⟩⟩,by show l.length-(z+(1+W.length+(BF.bL R).length))<l.length-z;omega⟩
   ·refine gk.same ?_ s7;exact U8 ac4 XZ
   ·show H7 gv=some (.lst (fg (g++((sA.length:Int)::sA))));exact s7 _ _ (by rw[aL,←ho6])
   ·show PyFlat.calls PyWrlnta.shape f1 (l.drop (z+(1+W.length+(BF.bL R).length)))=some u5;rw[←me,hd,Nat.add_assoc,kZ 1,DV,←kG,←cT,JT];exact TM
   ·have Hb:=I.Hb;dsimp only at Hb;show (g++((sA.length:Int)::sA))++PyFlat.told (PyFlat.played NumNeutral.step qP u5)=_;rw[←Hb,←qO,←hs1,List.append_assoc];rfl
   ·show (g++((sA.length:Int)::sA)).length≤300*(n+1);rw[cT,cN];omega
 ·rw[decide_eq_false c,if_neg J9];obtain⟨f0,hp⟩:=I.parse;have zl:z≤l.length:=I.pos;have e0:l.drop z=[]:=List.drop_eq_nil_of_le Kf;dsimp only at hp;rw[e0] at hp;have Hb:=I.Hb;dsimp only at Hb;rw[BF.Lf hp] at Hb;refine⟨_,rfl,q _ _ ng sm (b4 gF ?_)⟩;show fg g=_;rw[←Hb];show fg g=fg (g++[]);rw[List.append_nil]
end
def L9 (K:aP):Sp:=zk K 0 0 0
section
variable {K:aP} {h:Heap} {mg:Str→Option Value}
theorem X0 (X:K.In h) (G:h.Ns mainGlobals mg) (r:Raw K):∃ra,ShC K mg ra:=by
 obtain⟨a,ra,e,t,hl,hr⟩:=r.sh;refine⟨ra,⟨a,PySem.W.mg_of X G e,Lo t⟩,hl,fun i x p e1 e2=>?_⟩;have e3:E3[i]?=some [p.1,p.2]:=by
  have:E3=BF.kY.map fun p=>[p.1,p.2]:=by decide
  rw[this,aT,e2];rfl
 exact Lo (hr i x _ e1 e3)
set_option maxHeartbeats 0 in
theorem abd (w:World) (fa:Addr) (r:Raw K) (X:K.In h) (G:h.Ns mainGlobals mg) (P8:mg "answers"=some (.ref fa)) :
  ∃fd:FuncData,(∀(s:Shared) (us:List Value),us.length=(["calls"]:List Str).length→BindsTo s fd ⟨us,[]⟩ ((["calls"]:List Str).zip us))∧∀base:Heap,K.In base→base.Ns mainGlobals mg→jy PySem.Challenge.rw_bitfloats_s01_answers.prog w K mg base Bl 13 fa fd ["calls"] (L9 K):=by
 obtain⟨C,cE,⟨n1,n2,n3,n4,n5⟩,mE⟩:=r.ex;obtain⟨C2,ac⟩:=r.ac;obtain⟨C3,e3,q3⟩:=r.no;obtain⟨ra,hC⟩:=X0 X G r;have ak:Ev K mg C C2 C3:=⟨⟨h,X,G⟩,r,⟨⟨cE.cl,n1,n2,n3,n4,n5⟩,dU X G (r.iy 0 _ rfl),dU X G (r.iy 1 _ rfl),dU X G (r.iy 2 _ rfl),dU X G (r.iy 3 _ rfl),dU X G (r.iy 4 _ rfl),dU X G (r.iy 5 _ rfl),dU X G (r.iy 6 _ rfl),dU X G (r.iy 7 _ rfl),dU X G (r.iy 8 _ rfl),dU X G (r.iy 9 _ rfl),dU X G (r.iy 10 _ rfl),dU X G (r.iy 11 _ rfl),dU X G (r.iy 12 _ rfl),dU X G (r.iy 13 _ rfl),dU X G (r.iy 14 _ rfl),dU X G (r.iy 15 _ rfl),dU X G (r.iy 16 _ rfl),dU X G (r.iy 17 _ rfl),dU X G (r.iy 18 _ rfl),dU X G (r.iy 19 _ rfl),dU X G (r.iy 20 _ rfl),dU X G (r.iy 21 _ rfl),dU X G (r.iy 22 _ rfl),dU X G (r.iy 23 _ rfl),dU X G (r.iy 24 _ rfl),dU X G (r.iy 25 _ rfl),dU X G (r.iy 26 _ rfl),dU X G (r.iy 27 _ rfl),dU X G (r.iy 28 _ rfl),dU X G (r.iy 29 _ rfl),dU X G (r.iy 30 _ rfl),dU X G (r.iy 31 _ rfl),dU X G (r.iy 32 _ rfl),dU X G (r.iy 33 _ rfl),dU X G (r.iy 34 _ rfl),dU X G (r.iy 35 _ rfl),dU X G (r.iy 36 _ rfl),dU X G (r.iy 37 _ rfl),vb X G (r.FZ 0 _ rfl),vb X G (r.FZ 1 _ rfl),vb X G (r.FZ 2 _ rfl),vb X G (r.FZ 3 _ rfl),vb X G (r.FZ 4 _ rfl),vb X G (r.FZ 5 _ rfl),vb X G (r.FZ 6 _ rfl),mP X G (r.oT 0 _ rfl),mP X G (r.oT 1 _ rfl),mP X G (r.oT 2 _ rfl),mP X G (r.oT 3 _ rfl),mP X G (r.oT 4 _ rfl),mP X G (r.oT 5 _ rfl),mP X G (r.oT 6 _ rfl),mP X G (r.oT 7 _ rfl),mP X G (r.oT 8 _ rfl),mP X G (r.oT 9 _ rfl),mP X G (r.oT 10 _ rfl)⟩,⟨cE,mE⟩,ac,⟨PySem.W.mg_of X G e3,q3⟩⟩;obtain⟨fa2,oc,od,an,ni,kV,doc,pm,bw,ct,a,l,c,k⟩:=r.defs 88 _ rfl;cases P8.symm.trans (PySem.W.mg_of X G a);refine⟨PySem.W.fnOf "answers" "answers" (jz (top 145)) (gN (top 145)) (ay (top 145)) .none kV doc pm an bw ct,fun s us hu=>match us,hu with | [_],_=>.of_eq rfl,fun base _ _=>?_⟩;exact L7 ak (Ao l c k) hC
end
end G
open PySem PySem.W PyProof.Rows
theorem G.abe (K:aP) (H:L2.Hp) (xs:List L2.V) (a:Codec.denoteAll PySem.Challenge.rw_bitfloats_s01_answers.args) (hO:L2.xN H) (Tn:Codec.withinAll PySem.Challenge.rw_bitfloats_s01_answers.args a=true) (M8:Codec.app PySem.Challenge.rw_bitfloats_s01_answers.args PySem.Challenge.rw_bitfloats_s01_answers.asked a=true) (hx:L2.kJ K H xs (Codec.encAll PySem.Challenge.rw_bitfloats_s01_answers.args a)) :
  G.L9 K xs H (fun v H'=>L2.Dw K H' v (PySem.Challenge.rw_bitfloats_s01_answers.ret.enc (Codec.app PySem.Challenge.rw_bitfloats_s01_answers.args PySem.Challenge.rw_bitfloats_s01_answers.f a))) fun _ _ _=>False:=by
 cases hx with
 | cons h1 h2 =>
  cases h2;cases h1 with
  | lst hs ha =>
   have e:=L2.HY a.1 _ ha;subst e;have q:((Codec.inLen 0 19000 a.1&&a.1.all (Codec.inInt (-9007199254740991) 9007199254740991))&&true)=true:=Tn;rw[cI,cI] at q;exact⟨_,a.1,rfl,hs,⟨M8,bZ (Codec.inNat_iff.mp q.1.1).2 J9⟩,fun g H' _ _ hp=>.lst (L2.bU.of hp) (L2.HX _)⟩
set_option maxHeartbeats 0 in
theorem PySem.Challenge.cw_bitfloats_s01_answers_holds : PySem.Challenge.rw_bitfloats_s01_answers.Holds := by
 obtain⟨as,e,hl⟩:=G.left;refine G.use hl rfl rfl rfl G.ok ?_;refine L2.Ic (r:=PySem.Challenge.rw_bitfloats_s01_answers) (k:=13) (CX:=L2.Bl) (ps:=["calls"]) (sp:=G.L9) (by decide +kernel) rfl rfl ⟨rfl,J9,J9⟩ (fun w h Y=>PySem.W.kIn_of Y) ?F G.abe (fun _ _ _ _ z=>z)
 case F =>
  intro w mg fa h Y KX GG P8;refine G.abd w fa ?_ KX GG P8;refine⟨?defs,?iy,?FZ,?oT,?ex,?ac,?no,?sh⟩
  case defs =>
   unfold G.KI
   repeat (refine G.g5 ?_ ?_;(· refine' G.To ?a ?l ?c ?k;(case a=>k_is);(case l=>k_is);(case c=>k_is);(case k=>k_is)))
   exact G.sT
  case iy =>
   unfold G.Qb
   repeat (refine G.g5 ?_ ?_;(· refine' G.Tp ?a;(case a=>k_is)))
   exact G.sT
  case FZ =>
   unfold G.Qc;refine G.g5 ?_ ?_
   ·refine' G.qc ?a ?l ?c ?d ?s ?v;(case a=>k_is);(case l=>k_is);(case c=>rfl);(case d=>rfl);(case s=>show 4≤sizeLine;decide);(case v=>exact .cons ⟨_,rfl⟩ (.cons ⟨_,rfl⟩ (.cons ⟨_,rfl⟩ (.cons ⟨_,rfl⟩ (.nil)))))
   refine G.g5 ?_ ?_
   ·refine' G.qc ?a ?l ?c ?d ?s ?v;(case a=>k_is);(case l=>k_is);(case c=>rfl);(case d=>rfl);(case s=>show 4≤sizeLine;decide);(case v=>exact .cons ⟨_,rfl⟩ (.cons ⟨_,rfl⟩ (.cons ⟨_,rfl⟩ (.cons ⟨_,rfl⟩ (.nil)))))
   refine G.g5 ?_ ?_
   ·refine' G.qc ?a ?l ?c ?d ?s ?v;(case a=>k_is);(case l=>k_is);(case c=>rfl);(case d=>rfl);(case s=>show 14≤sizeLine;decide);(case v=>exact .cons ⟨_,rfl⟩ (.cons ⟨_,rfl⟩ (.cons ⟨_,rfl⟩ (.cons ⟨_,rfl⟩ (.cons ⟨_,rfl⟩ (.cons ⟨_,rfl⟩ (.cons ⟨_,rfl⟩ (.cons ⟨_,rfl⟩ (.cons ⟨_,rfl⟩ (.cons ⟨_,rfl⟩ (.cons ⟨_,rfl⟩ (.cons ⟨_,rfl⟩ (.cons ⟨_,rfl⟩ (.cons ⟨_,rfl⟩ (.nil)))))))))))))))
   refine G.g5 ?_ ?_
   ·refine' G.qc ?a ?l ?c ?d ?s ?v;(case a=>k_is);(case l=>k_is);(case c=>rfl);(case d=>rfl);(case s=>show 12≤sizeLine;decide);(case v=>exact .cons ⟨_,rfl⟩ (.cons ⟨_,rfl⟩ (.cons ⟨_,rfl⟩ (.cons ⟨_,rfl⟩ (.cons ⟨_,rfl⟩ (.cons ⟨_,rfl⟩ (.cons ⟨_,rfl⟩ (.cons ⟨_,rfl⟩ (.cons ⟨_,rfl⟩ (.cons ⟨_,rfl⟩ (.cons ⟨_,rfl⟩ (.cons ⟨_,rfl⟩ (.nil)))))))))))))
   refine G.g5 ?_ ?_
   ·refine' G.qc ?a ?l ?c ?d ?s ?v;(case a=>k_is);(case l=>k_is);(case c=>rfl);(case d=>rfl);(case s=>show 9≤sizeLine;decide);(case v=>exact .cons ⟨_,rfl⟩ (.cons ⟨_,rfl⟩ (.cons ⟨_,rfl⟩ (.cons ⟨_,rfl⟩ (.cons ⟨_,rfl⟩ (.cons ⟨_,rfl⟩ (.cons ⟨_,rfl⟩ (.cons ⟨_,rfl⟩ (.cons ⟨_,rfl⟩ (.nil))))))))))
   refine G.g5 ?_ ?_
   ·refine' G.qc ?a ?l ?c ?d ?s ?v;(case a=>k_is);(case l=>k_is);(case c=>rfl);(case d=>rfl);(case s=>show 8≤sizeLine;decide);(case v=>exact .cons ⟨_,rfl⟩ (.cons ⟨_,rfl⟩ (.cons ⟨_,rfl⟩ (.cons ⟨_,rfl⟩ (.cons ⟨_,rfl⟩ (.cons ⟨_,rfl⟩ (.cons ⟨_,rfl⟩ (.cons ⟨_,rfl⟩ (.nil)))))))))
   refine G.g5 ?_ ?_
   ·refine' G.qc ?a ?l ?c ?d ?s ?v;(case a=>k_is);(case l=>k_is);(case c=>rfl);(case d=>rfl);(case s=>show 4≤sizeLine;decide);(case v=>exact .cons ⟨_,rfl⟩ (.cons ⟨_,rfl⟩ (.cons ⟨_,rfl⟩ (.cons ⟨_,rfl⟩ (.nil)))))
   exact G.sT
  case oT =>
   unfold G.Vx
   repeat (refine G.g5 ?_ ?_;(· show nsIn _ _ _=_;k_is))
   exact G.sT
  case ex =>
   refine' G.Mr ?aC ⟨?pg,?hd,?po,?sa⟩ ?mk ?kp ⟨⟨?n1,?n2,?n3,?n4,?n5⟩,G.vX ?a ?i ?l ?c ?k⟩
   (case aC=>k_is);(case pg=>k_is);(case hd=>k_is);(case po=>k_is);(case sa=>k_is);(case mk=>k_is);(case kp=>k_is)
   case n1=>show findIn _ _ _=_;k_is
   case n2=>show findIn _ _ _=_;k_is
   case n3=>show findIn _ _ _=_;k_is
   case n4=>show findIn _ _ _=_;k_is
   case n5=>show findIn _ _ _=_;k_is
   (case a=>k_is);(case i=>k_is);(case l=>k_is);(case c=>k_is);(case k=>k_is)
  case ac =>
   refine' G.Mr ?aC ⟨?pg,?hd,?po,?sa⟩ ?mk ?kp ⟨?n1,?m0,?m1,?m2,?m3⟩
   (case aC=>k_is);(case pg=>k_is);(case hd=>k_is);(case po=>k_is);(case sa=>k_is);(case mk=>k_is);(case kp=>k_is)
   case n1=>show findIn _ _ _=_;k_is
   case m0=>refine' G.vX ?a ?i ?l ?c ?k;(case a=>k_is);(case i=>k_is);(case l=>k_is);(case c=>k_is);(case k=>k_is)
   case m1=>refine' G.vX ?a ?i ?l ?c ?k;(case a=>k_is);(case i=>k_is);(case l=>k_is);(case c=>k_is);(case k=>k_is)
   case m2=>refine' G.vX ?a ?i ?l ?c ?k;(case a=>k_is);(case i=>k_is);(case l=>k_is);(case c=>k_is);(case k=>k_is)
   case m3=>refine' G.vX ?a ?i ?l ?c ?k;(case a=>k_is);(case i=>k_is);(case l=>k_is);(case c=>k_is);(case k=>k_is)
  case no =>
   refine' G.Tr ?aC ?q
   (case aC=>k_is)
   (case q=>kernel_rfl)
  case sh =>
   refine' G.Ts ?a ?l ?c ?d ?s ?v ?r
   (case a=>k_is);(case l=>k_is);(case c=>rfl);(case d=>rfl);(case s=>show 15≤sizeLine;decide);(case v=>exact .cons rfl (.cons rfl (.cons rfl (.cons rfl (.cons rfl (.cons rfl (.cons rfl (.cons rfl (.cons rfl (.cons rfl (.cons rfl (.cons rfl (.cons rfl (.cons rfl (.cons rfl (.nil))))))))))))))))
   case r =>
    unfold G.E3
    repeat (refine G.NF ?_ ?_;(· refine' G.Tq ?l ?c ?d ?s ?v;(case l=>k_is);(case c=>rfl);(case d=>rfl);(case s=>show 2≤sizeLine;decide);(case v=>exact .cons ⟨_,rfl⟩ (.cons ⟨_,rfl⟩ .nil))))
    exact G.Qh

